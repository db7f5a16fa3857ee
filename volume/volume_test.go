package volume_test

import (
	"iter"
	"math"
	"slices"
	"testing"

	"chatelaine/api"
	"chatelaine/volume"
)

// What the document says of a volume stands here once more, in plain words and numbers of its own.

const maxObjects = 64

func plan(n int) api.Plan { return api.Plan{Objects: n} }

func head(at int) api.Spot        { return api.Spot{Kind: 1, At: at} }
func log(area int) api.Spot       { return api.Spot{Kind: 2, Area: area} }
func state(area, at int) api.Spot { return api.Spot{Kind: 3, Area: area, At: at} }
func frame(area, at int) api.Spot { return api.Spot{Kind: 4, Area: area, At: at} }
func home(at int) api.Spot        { return api.Spot{Kind: 5, At: at} }

// places are those of a plan for n objects, by their sectors.
func places(n int) []api.Spot {
	l := []api.Spot{head(0), head(1)}
	for area := range 2 {
		l = append(l, log(area))
		for at := range 8 {
			l = append(l, state(area, at))
		}
		for at := range n {
			l = append(l, frame(area, at))
		}
	}
	for oid := range n {
		l = append(l, home(oid))
	}
	return l
}

// ofTwo are those of a plan for 2 objects, written out.
func ofTwo() []api.Spot {
	return []api.Spot{
		{Kind: 1}, {Kind: 1, At: 1},
		{Kind: 2},
		{Kind: 3}, {Kind: 3, At: 1}, {Kind: 3, At: 2}, {Kind: 3, At: 3}, {Kind: 3, At: 4}, {Kind: 3, At: 5}, {Kind: 3, At: 6}, {Kind: 3, At: 7},
		{Kind: 4}, {Kind: 4, At: 1},
		{Kind: 2, Area: 1},
		{Kind: 3, Area: 1}, {Kind: 3, Area: 1, At: 1}, {Kind: 3, Area: 1, At: 2}, {Kind: 3, Area: 1, At: 3},
		{Kind: 3, Area: 1, At: 4}, {Kind: 3, Area: 1, At: 5}, {Kind: 3, Area: 1, At: 6}, {Kind: 3, Area: 1, At: 7},
		{Kind: 4, Area: 1}, {Kind: 4, Area: 1, At: 1},
		{Kind: 5}, {Kind: 5, At: 1},
	}
}

// reckoned tells the sector of a place, from the numbers of those ahead of it, and what refuses it.
func reckoned(n int, x api.Spot) (int, api.Errno) {
	if n < 1 || n > maxObjects {
		return 0, api.ErrArg
	}
	area := 2 + x.Area*(9+n)
	switch x.Kind {
	case 1:
		return within(x.Area == 0, 0, x.At, 2)
	case 2:
		return within((x.Area == 0 || x.Area == 1) && x.At == 0, area, 0, 1)
	case 3:
		return within(x.Area == 0 || x.Area == 1, area+1, x.At, 8)
	case 4:
		return within(x.Area == 0 || x.Area == 1, area+9, x.At, n)
	case 5:
		return within(x.Area == 0, 20+2*n, x.At, n)
	}
	return 0, api.ErrArg
}

func within(may bool, first, at, count int) (int, api.Errno) {
	if !may {
		return 0, api.ErrArg
	}
	if at < 0 || at >= count {
		return 0, api.ErrRange
	}
	return first + at, api.OK
}

// TestThePlaces holds the lists and the reckoning against one another, so that a slip in one of them does not go unseen.
func TestThePlaces(t *testing.T) {
	if !slices.Equal(places(2), ofTwo()) {
		t.Errorf("of 2 objects: %v, want %v", places(2), ofTwo())
	}
	for n := 1; n <= maxObjects; n++ {
		for sector, x := range places(n) {
			if got, e := reckoned(n, x); got != sector || e != api.OK {
				t.Errorf("of %d objects: %v is reckoned %d, %v, want %d", n, x, got, e, sector)
			}
		}
	}
}

// Numbers to try

// huge are numbers at which something may wrap round, or be cut off.
func huge() []int {
	return []int{math.MinInt, math.MinInt + 1, math.MinInt + 2, math.MinInt + 20, math.MinInt + 23, math.MinInt / 3, -1 << 62, -1<<62 + 1,
		-1 << 32, -1<<32 + 1, -1 << 31, -1<<31 - 1, -256, -255, 255, 256, 257, 258, 65536, 65537, 1<<31 - 1, 1 << 31, 1 << 32, 1<<32 + 1, 1<<32 + 2,
		1 << 62, 1<<62 + 1, math.MaxInt / 3, math.MaxInt/3 + 1, math.MaxInt - 23, math.MaxInt - 1, math.MaxInt}
}

func noPlans() []int {
	return slices.Concat([]int{0, -1, -2, -6, -7, -63, -64, 65, 66, 127, 128, 129}, huge())
}

func goodPlans() []int {
	var l []int
	for n := 1; n <= maxObjects; n++ {
		l = append(l, n)
	}
	return l
}

// kinds are all there are, and others.
func kinds() []api.SpotKind {
	l := []api.SpotKind{-2, -1, 0, 1, 2, 3, 4, 5, 6, 7, 8}
	for _, n := range huge() {
		l = append(l, api.SpotKind(n))
	}
	return l
}

func wrongKinds() []api.SpotKind {
	return slices.DeleteFunc(kinds(), func(k api.SpotKind) bool { return k >= 1 && k <= 5 })
}

// beside are numbers around those of a plan for n objects.
func beside(n int) []int {
	return slices.Concat([]int{-9, -8, -3, -2, -1, 0, 1, 2, 3, 6, 7, 8, 9, 20, 22, 23, n - 1, n, n + 1, 3 * n, 63, 64, 65}, huge())
}

// sectorTells fails, if Sector does not tell just that.
func sectorTells(t *testing.T, n int, x api.Spot, want int, e api.Errno) {
	t.Helper()
	if got, f := volume.Sector(plan(n), x); got != want || f != e {
		t.Errorf("Sector(%d, %v) = %d, %v, want %d, %v", n, x, got, f, want, e)
	}
}

// spotTells fails, if Spot does not tell just that.
func spotTells(t *testing.T, n, sector int, want api.Spot, e api.Errno) {
	t.Helper()
	if got, f := volume.Spot(plan(n), sector); got != want || f != e {
		t.Errorf("Spot(%d, %d) = %v, %v, want %v, %v", n, sector, got, f, want, e)
	}
}

// P6.1

func TestSizeByHand(t *testing.T) {
	for n, want := range map[int]int{1: 23, 2: 26, 3: 29, 10: 50, 63: 209, 64: 212} {
		if got, e := volume.Size(plan(n)); got != want || e != api.OK {
			t.Errorf("Size(%d) = %d, %v, want %d", n, got, e, want)
		}
	}
}

func TestSize(t *testing.T) {
	for _, n := range goodPlans() {
		if got, e := volume.Size(plan(n)); got != 20+3*n || e != api.OK {
			t.Errorf("Size(%d) = %d, %v, want %d", n, got, e, 20+3*n)
		}
	}
}

func TestSizeRefuses(t *testing.T) {
	for _, n := range noPlans() {
		if got, e := volume.Size(plan(n)); got != 0 || e != api.ErrArg {
			t.Errorf("Size(%d) = %d, %v, want ErrArg alone", n, got, e)
		}
	}
}

func fits(t *testing.T, sectors, n int) {
	t.Helper()
	if p, ok := volume.Fits(sectors); p != plan(n) || ok != (n > 0) {
		t.Errorf("Fits(%d) = %v, %v, want %d objects", sectors, p, ok, n)
	}
}

func TestFitsByHand(t *testing.T) {
	for sectors, n := range map[int]int{23: 1, 26: 2, 29: 3, 50: 10, 209: 63, 212: 64} {
		fits(t, sectors, n)
	}
	for _, sectors := range []int{-1, 0, 1, 2, 3, 17, 20, 21, 22, 24, 25, 27, 28, 208, 210, 211, 213, 214, 215, 218, 4096, math.MaxInt, math.MinInt} {
		fits(t, sectors, 0)
	}
}

func TestFitsEachSize(t *testing.T) {
	fitting := 0
	for sectors := -300; sectors <= 5000; sectors++ {
		n := 0
		if sectors >= 23 && sectors <= 212 && sectors%3 == 2 {
			n = (sectors - 20) / 3
			fitting++
		}
		fits(t, sectors, n)
	}
	if fitting != maxObjects {
		t.Errorf("%d sizes fit, want %d", fitting, maxObjects)
	}
}

// Numbers which, cut off or wrapped round, are sizes.
func TestFitsHuge(t *testing.T) {
	for _, base := range []int{1 << 8, 1 << 16, 1 << 31, 1 << 32, 1 << 62, math.MinInt, -1 << 62, -1 << 32, -1 << 31, -1 << 16} {
		for size := 10; size <= 230; size++ {
			fits(t, base+size, 0)
		}
	}
	for below := range 300 {
		fits(t, math.MaxInt-below, 0)
		fits(t, math.MinInt+below, 0)
		fits(t, -below, 0)
	}
	for _, sectors := range huge() {
		fits(t, sectors, 0)
	}
}

func TestFitsOfSize(t *testing.T) {
	for _, n := range goodPlans() {
		size, e := volume.Size(plan(n))
		if p, ok := volume.Fits(size); p != plan(n) || !ok || e != api.OK {
			t.Errorf("Fits of Size(%d) = %v, %v, %v", n, p, ok, e)
		}
	}
}

// P6.2

func TestByHand(t *testing.T) {
	for sector, x := range ofTwo() {
		sectorTells(t, 2, x, sector, api.OK)
		spotTells(t, 2, sector, x, api.OK)
	}
	sectorTells(t, 1, home(0), 22, api.OK)
	spotTells(t, 1, 22, home(0), api.OK)
	sectorTells(t, 1, log(1), 12, api.OK)
	spotTells(t, 1, 12, log(1), api.OK)
	sectorTells(t, 64, frame(0, 63), 74, api.OK)
	sectorTells(t, 64, log(1), 75, api.OK)
	sectorTells(t, 64, state(1, 7), 83, api.OK)
	sectorTells(t, 64, frame(1, 63), 147, api.OK)
	sectorTells(t, 64, home(0), 148, api.OK)
	sectorTells(t, 64, home(63), 211, api.OK)
	spotTells(t, 64, 211, home(63), api.OK)
	spotTells(t, 64, 148, home(0), api.OK)
	spotTells(t, 64, 147, frame(1, 63), api.OK)
	spotTells(t, 64, 74, frame(0, 63), api.OK)
}

// The names that package api has for the Kinds are those of the document.
func TestKindsByName(t *testing.T) {
	want := []api.Spot{
		{Kind: api.SpotHead, At: 1}, {Kind: api.SpotLog, Area: 1}, {Kind: api.SpotState, Area: 1, At: 7},
		{Kind: api.SpotFrame, Area: 1, At: 1}, {Kind: api.SpotHome, At: 1},
	}
	for i, sector := range []int{1, 13, 21, 23, 25} {
		sectorTells(t, 2, want[i], sector, api.OK)
		spotTells(t, 2, sector, want[i], api.OK)
	}
}

func TestEachSectorOfEachPlan(t *testing.T) {
	for _, n := range goodPlans() {
		l := places(n)
		for sector, x := range l {
			sectorTells(t, n, x, sector, api.OK)
			spotTells(t, n, sector, x, api.OK)
		}
		for _, sector := range []int{-1, -2, -3, len(l), len(l) + 1, len(l) + 2, len(l) + 3} {
			spotTells(t, n, sector, api.Spot{}, api.ErrRange)
		}
	}
}

func TestSpotRefuses(t *testing.T) {
	for _, n := range goodPlans() {
		for _, sector := range huge() {
			if sector < 0 || sector >= 20+3*n {
				spotTells(t, n, sector, api.Spot{}, api.ErrRange)
			}
		}
	}
	for _, n := range noPlans() {
		for _, sector := range slices.Concat([]int{0, 1, 2, 3, 19, 20, 22, 23, 211, 212, -1}, huge()) {
			spotTells(t, n, sector, api.Spot{}, api.ErrArg) // ahead of a sector that the plan has not
		}
	}
}

func TestSectorPlanAheadOfPlace(t *testing.T) {
	for _, n := range noPlans() {
		for _, x := range slices.Concat(places(3), []api.Spot{{}, {Kind: 6}, head(2), home(-1), home(n), {Kind: 1, Area: 1}, log(2)}) {
			sectorTells(t, n, x, 0, api.ErrArg)
		}
	}
}

func TestSectorWrongKinds(t *testing.T) {
	for _, n := range []int{1, 2, 63, 64} {
		for _, kind := range wrongKinds() {
			for _, area := range []int{-1, 0, 1, 2, math.MinInt, math.MaxInt} {
				for _, at := range beside(n) {
					sectorTells(t, n, api.Spot{Kind: kind, Area: area, At: at}, 0, api.ErrArg)
				}
			}
		}
	}
}

// A place may not be by its Area, whether the plan had it but for that or not.
func TestSectorWrongAreas(t *testing.T) {
	for _, n := range []int{1, 2, 63, 64} {
		for _, area := range slices.Concat([]int{-1, -2, 2, 3}, huge()) {
			for _, at := range beside(n) {
				for kind := api.SpotKind(1); kind <= 5; kind++ {
					sectorTells(t, n, api.Spot{Kind: kind, Area: area, At: at}, 0, api.ErrArg)
				}
			}
		}
	}
}

// What a Kind does not name is zero: the Area of a header and of a home, the At of a head.
func TestSectorNotNamed(t *testing.T) {
	for _, n := range []int{1, 2, 63, 64} {
		for _, at := range beside(n) {
			sectorTells(t, n, api.Spot{Kind: 1, Area: 1, At: at}, 0, api.ErrArg)
			sectorTells(t, n, api.Spot{Kind: 5, Area: 1, At: at}, 0, api.ErrArg)
			if at != 0 {
				sectorTells(t, n, api.Spot{Kind: 2, At: at}, 0, api.ErrArg)
				sectorTells(t, n, api.Spot{Kind: 2, Area: 1, At: at}, 0, api.ErrArg)
			}
		}
	}
}

func TestSectorNotHad(t *testing.T) {
	for _, n := range goodPlans() {
		for _, at := range slices.Concat([]int{-1, -2, n - 20, n - 65}, huge()) {
			if at < 0 || at >= maxObjects {
				for _, x := range []api.Spot{head(at), state(0, at), state(1, at), frame(0, at), frame(1, at), home(at)} {
					sectorTells(t, n, x, 0, api.ErrRange)
				}
			}
		}
		for _, x := range []api.Spot{head(2), head(3), state(0, 8), state(0, 9), state(1, 8), state(1, 9)} {
			sectorTells(t, n, x, 0, api.ErrRange)
		}
		for _, at := range []int{n, n + 1, n + 9, 2 * n, 3 * n, 64, 65} {
			for _, x := range []api.Spot{frame(0, at), frame(1, at), home(at)} {
				sectorTells(t, n, x, 0, api.ErrRange)
			}
		}
	}
}

func TestSectorBounds(t *testing.T) {
	for _, n := range goodPlans() {
		sectorTells(t, n, head(0), 0, api.OK)
		sectorTells(t, n, head(1), 1, api.OK)
		sectorTells(t, n, log(0), 2, api.OK)
		sectorTells(t, n, state(0, 0), 3, api.OK)
		sectorTells(t, n, state(0, 7), 10, api.OK)
		sectorTells(t, n, frame(0, 0), 11, api.OK)
		sectorTells(t, n, frame(0, n-1), 10+n, api.OK)
		sectorTells(t, n, log(1), 11+n, api.OK)
		sectorTells(t, n, state(1, 0), 12+n, api.OK)
		sectorTells(t, n, state(1, 7), 19+n, api.OK)
		sectorTells(t, n, frame(1, 0), 20+n, api.OK)
		sectorTells(t, n, frame(1, n-1), 19+2*n, api.OK)
		sectorTells(t, n, home(0), 20+2*n, api.OK)
		sectorTells(t, n, home(n-1), 19+3*n, api.OK)
	}
}

// All Kinds, Areas and Ats by each other, of each plan and of those that may not be.
func TestSectorOfAll(t *testing.T) {
	for _, n := range slices.Concat(goodPlans(), []int{-1, 0, 65, math.MinInt, math.MaxInt}) {
		for _, kind := range kinds() {
			for _, area := range []int{-1, 0, 1, 2, 256, 1 << 32, math.MinInt, math.MaxInt} {
				for _, at := range beside(n) {
					x := api.Spot{Kind: kind, Area: area, At: at}
					want, e := reckoned(n, x)
					sectorTells(t, n, x, want, e)
				}
			}
		}
	}
}

// told are all sectors' places that an iterator tells, and whether its sectors are 0, 1 and so on.
func told(t *testing.T, all iter.Seq2[int, api.Spot]) []api.Spot {
	t.Helper()
	var l []api.Spot
	for sector, x := range all {
		if sector != len(l) {
			t.Errorf("All tells sector %d, want %d", sector, len(l))
		}
		l = append(l, x)
	}
	return l
}

func tells(t *testing.T, n int, all iter.Seq2[int, api.Spot]) {
	t.Helper()
	if l := told(t, all); !slices.Equal(l, places(n)) {
		t.Errorf("All(%d) tells %v, want %v", n, l, places(n))
	}
}

func TestAllByHand(t *testing.T) {
	if l := told(t, volume.All(plan(2))); !slices.Equal(l, ofTwo()) {
		t.Errorf("All(2) tells %v, want %v", l, ofTwo())
	}
}

func TestAllOfEachPlan(t *testing.T) {
	for _, n := range goodPlans() {
		all := volume.All(plan(n))
		tells(t, n, all)
		tells(t, n, all) // once more
		tells(t, n, volume.All(plan(n)))
	}
}

func TestAllOfNoPlan(t *testing.T) {
	for _, n := range noPlans() {
		all := volume.All(plan(n))
		if all == nil {
			t.Fatalf("All(%d) is no iterator", n)
		}
		for range 2 {
			for sector, x := range all {
				t.Errorf("All(%d) tells %d, %v", n, sector, x)
			}
		}
	}
}

// asked counts how often an iterator tells something, if it is left at that sector; none is told behind that one.
func asked(all iter.Seq2[int, api.Spot], leave int) int {
	count := 0
	all(func(sector int, _ api.Spot) bool {
		count++
		return sector != leave
	})
	return count
}

func TestAllLeft(t *testing.T) {
	for _, n := range []int{1, 2, 5, 63, 64} {
		all := volume.All(plan(n))
		for leave := range places(n) {
			if count := asked(all, leave); count != leave+1 {
				t.Errorf("All(%d), left at %d, tells %d sectors", n, leave, count)
			}
			if leave < 30 || leave%20 == 0 {
				tells(t, n, all)
			}
		}
	}
}

func TestAllLeftByBreak(t *testing.T) {
	for _, n := range goodPlans() {
		all := volume.All(plan(n))
		count := 0
		for range all {
			break
		}
		for sector, x := range all {
			count++
			if x != places(n)[sector] {
				t.Errorf("All(%d) tells %d, %v", n, sector, x)
			}
			if sector == 9 {
				break
			}
		}
		if count != 10 {
			t.Errorf("All(%d), left at 9, tells %d sectors", n, count)
		}
		tells(t, n, all)
	}
}

func TestAllWithin(t *testing.T) {
	for _, n := range []int{1, 2, 7} {
		l := places(n)
		all := volume.All(plan(n))
		outer := 0
		for sector, x := range all {
			if sector != outer || x != l[sector] {
				t.Errorf("All(%d) tells %d, %v, want %d", n, sector, x, outer)
			}
			tells(t, n, all)
			tells(t, n+1, volume.All(plan(n+1)))
			asked(all, sector/2)
			outer++
		}
		if outer != len(l) {
			t.Errorf("All(%d) tells %d sectors, want %d", n, outer, len(l))
		}
	}
}

func TestAllByTurns(t *testing.T) {
	all := volume.All(plan(4))
	next, stop := iter.Pull2(all)
	defer stop()
	other, end := iter.Pull2(all)
	defer end()
	for sector, x := range places(4) {
		for _, one := range []func() (int, api.Spot, bool){next, other} {
			if got, y, ok := one(); got != sector || y != x || !ok {
				t.Errorf("All tells %d, %v, %v, want %d, %v", got, y, ok, sector, x)
			}
		}
	}
	if sector, x, ok := next(); ok {
		t.Errorf("All tells %d, %v behind the last one", sector, x)
	}
}

// P6.3

func TestSpotOfSector(t *testing.T) {
	for _, n := range goodPlans() {
		for _, x := range places(n) {
			sector, e := volume.Sector(plan(n), x)
			y, f := volume.Spot(plan(n), sector)
			if y != x || e != api.OK || f != api.OK {
				t.Errorf("of %d objects: Spot of Sector(%v) = %v, %v, %v", n, x, y, e, f)
			}
		}
	}
}

// Whatever place goes has a sector whose place it is; whatever sector goes, a place whose sector it is.
func TestBackAndForthOfAll(t *testing.T) {
	for _, n := range []int{1, 2, 7, 63, 64} {
		for kind := range api.SpotKind(8) {
			for area := -1; area <= 2; area++ {
				for at := -2; at <= 70; at++ {
					x := api.Spot{Kind: kind, Area: area, At: at}
					sector, e := volume.Sector(plan(n), x)
					if y, f := volume.Spot(plan(n), sector); e == api.OK && (y != x || f != api.OK) {
						t.Errorf("of %d objects: Spot of Sector(%v) = %v, %v", n, x, y, f)
					}
				}
			}
		}
		for sector := -5; sector <= 230; sector++ {
			x, e := volume.Spot(plan(n), sector)
			if got, f := volume.Sector(plan(n), x); e == api.OK && (got != sector || f != api.OK) {
				t.Errorf("of %d objects: Sector of Spot(%d) = %d, %v", n, sector, got, f)
			}
		}
	}
}

func TestSectorOfSpot(t *testing.T) {
	for _, n := range goodPlans() {
		size, e := volume.Size(plan(n))
		if e != api.OK {
			t.Errorf("Size(%d): %v", n, e)
		}
		for sector := range size {
			x, e := volume.Spot(plan(n), sector)
			got, f := volume.Sector(plan(n), x)
			if got != sector || e != api.OK || f != api.OK {
				t.Errorf("of %d objects: Sector of Spot(%d) = %d, %v, %v", n, sector, got, e, f)
			}
		}
	}
}

func TestNoTwoTheSame(t *testing.T) {
	for _, n := range goodPlans() {
		size, _ := volume.Size(plan(n))
		where := map[api.Spot]int{}
		for sector := range size {
			x, e := volume.Spot(plan(n), sector)
			if was, there := where[x]; there || e != api.OK || x.Kind == api.SpotNone {
				t.Errorf("of %d objects: sector %d is %v, %v, and so is %d", n, sector, x, e, was)
			}
			where[x] = sector
		}
		for sector, x := range volume.All(plan(n)) {
			if where[x] != sector {
				t.Errorf("of %d objects: All tells %v at %d, Spot at %d", n, x, sector, where[x])
			}
			delete(where, x)
		}
		if len(where) != 0 {
			t.Errorf("of %d objects: All does not tell %v", n, where)
		}
	}
}

func TestOneObjectMore(t *testing.T) {
	for n := 1; n < maxObjects; n++ {
		size, e := volume.Size(plan(n))
		more, f := volume.Size(plan(n + 1))
		if more != size+3 || e != api.OK || f != api.OK {
			t.Errorf("Size(%d) = %d, %v, Size(%d) = %d, %v", n, size, e, n+1, more, f)
		}
		had := map[api.Spot]int{}
		for sector, x := range volume.All(plan(n)) {
			had[x] = sector
		}
		var news []api.Spot
		for _, x := range volume.All(plan(n + 1)) {
			if _, was := had[x]; !was {
				news = append(news, x)
			}
		}
		if want := []api.Spot{frame(0, n), frame(1, n), home(n)}; !slices.Equal(news, want) {
			t.Errorf("of %d objects there is more than of %d: %v, want %v", n+1, n, news, want)
		}
	}
}

// Nothing hangs on what was asked ahead.
func TestAskedOnceMore(t *testing.T) {
	for _, n := range []int{64, 1, 0, 2, 65, 63, -1, 1} {
		for range 2 {
			volume.Fits(n)
			size, e := volume.Size(plan(n))
			if may := n >= 1 && n <= maxObjects; (e == api.OK) != may || may && size != 20+3*n {
				t.Errorf("Size(%d) = %d, %v", n, size, e)
			}
			for _, x := range []api.Spot{head(1), home(0), frame(1, 5), {}, {Kind: 6}} {
				want, e := reckoned(n, x)
				sectorTells(t, n, x, want, e)
			}
			asked(volume.All(plan(n)), 3)
		}
	}
}
