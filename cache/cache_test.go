package cache_test

import (
	"encoding/binary"
	"fmt"
	"hash/crc32"
	"math"
	"math/big"
	"slices"
	"strconv"
	"strings"
	"testing"

	"chatelaine/api"
	"chatelaine/cache"
	"chatelaine/disk"
)

// What the document says of a cache, of objects and of their sectors stands here once more, in plain words and numbers of its own.

const (
	maxObjects  = 64
	maxCount    = 4294967295
	sectorBytes = 512
	summed      = 508

	ok       = api.Errno(0)
	errNil   = api.Errno(1)
	errArg   = api.Errno(2)
	errRange = api.Errno(4)
	errDisk  = api.Errno(120)
	errRot   = api.Errno(270)

	free    = api.ObjKind(0)
	aNode   = api.ObjKind(1)
	aPage   = api.ObjKind(2)
	retired = api.ObjKind(3)
)

type sector = [sectorBytes]byte

// Sectors

// sealed tells a sector with its sum in its last four bytes.
func sealed(b sector) sector {
	binary.LittleEndian.PutUint32(b[summed:], crc32.ChecksumIEEE(b[:summed]))
	return b
}

func layKey(b []byte, k api.Key) {
	b[0], b[1] = byte(k.Kind), byte(k.Rights)
	binary.LittleEndian.PutUint16(b[2:], uint16(k.Oid))
	binary.LittleEndian.PutUint32(b[4:], uint32(k.Count))
	binary.LittleEndian.PutUint32(b[8:], uint32(k.Call))
	binary.LittleEndian.PutUint64(b[12:], uint64(k.Value))
}

// sectorOf lays an object by the places of its bytes, one that may not be, too.
func sectorOf(o api.Object) sector {
	var b sector
	b[0] = byte(o.Kind)
	binary.LittleEndian.PutUint32(b[4:], uint32(o.Count))
	binary.LittleEndian.PutUint32(b[8:], uint32(o.Calls))
	for i, k := range o.Slots {
		layKey(b[12+20*i:], k)
	}
	copy(b[332:], o.Bytes[:])
	return sealed(b)
}

func diskOf(t *testing.T, l ...sector) *disk.Disk {
	t.Helper()
	var row []byte
	for _, b := range l {
		row = append(row, b[:]...)
	}
	d, e := disk.Of(row)
	if e != ok {
		t.Fatalf("a disk of %d sectors: %v", len(l), e)
	}
	return d
}

// Objects

func key(kind api.KeyKind, oid int, count int64) api.Key {
	return api.Key{Kind: kind, Oid: oid, Count: count}
}

func number(n int64) api.Key { return api.Key{Kind: 1, Value: n} }

func slot(o api.Object, at int, k api.Key) api.Object {
	o.Slots[at] = k
	return o
}

func with(o api.Object, at int, b byte) api.Object {
	o.Bytes[at] = b
	return o
}

func calls(o api.Object, n int64) api.Object {
	o.Calls = n
	return o
}

func object(kind api.ObjKind, count int64) api.Object { return api.Object{Kind: kind, Count: count} }

// thing tells an object that may be in a store of n; those of other numbers are others.
func thing(n, number int) api.Object {
	o := api.Object{Kind: []api.ObjKind{aPage, aNode, free, retired}[number%4], Count: int64(number) + 7}
	if o.Kind == aPage || o.Kind == aNode {
		for i := range o.Bytes {
			o.Bytes[i] = byte(i*5 + number*3 + 1)
		}
	}
	if o.Kind == aNode {
		o.Calls = int64(number) * 1000
		for i := range o.Slots {
			o.Slots[i] = api.Key{Kind: 6, Oid: (i + number) % n, Count: int64(i), Value: int64(number - 9)}
		}
	}
	return o
}

// naming are keys of each kind that names an object.
func naming(oid int) []api.Key {
	return []api.Key{
		key(2, oid, 1), {Kind: 2, Oid: oid, Count: 1, Rights: 7}, key(3, oid, 0), {Kind: 3, Oid: oid, Count: 1, Rights: 1},
		key(4, oid, maxCount), key(5, oid, 1), {Kind: 6, Oid: oid, Count: 1, Value: -1}, {Kind: 7, Oid: oid, Count: 1, Call: maxCount},
	}
}

// rightOnes are objects that may be in a store of n.
func rightOnes(n int) []api.Object {
	l := []api.Object{{}, object(free, 1), object(free, maxCount), object(retired, 0), object(retired, maxCount)}
	for _, count := range []int64{0, 1, maxCount} {
		l = append(l, object(aPage, count), object(aNode, count), calls(object(aNode, 1), count))
	}
	for _, kind := range []api.ObjKind{aPage, aNode} {
		l = append(l, with(object(kind, 1), 0, 1), with(object(kind, 1), 63, 255))
	}
	keys := []api.Key{number(0), number(math.MinInt64), number(math.MaxInt64), {Kind: 8}, {Kind: 9}, {Kind: 10}}
	for _, k := range slices.Concat(keys, naming(0), naming(n-1)) {
		l = append(l, slot(object(aNode, 1), 0, k), slot(object(aNode, 1), 15, k))
	}
	for i := range 8 {
		l = append(l, thing(n, i))
	}
	return l
}

// spoiltOnes are objects that have bytes, but may not be in a store of n.
func spoiltOnes(n int) []api.Object {
	l := []api.Object{object(4, 0), object(4, 1), object(5, 1), object(128, 1), object(255, 1), with(object(4, 1), 3, 1)}
	for _, o := range []api.Object{{}, object(free, 1), object(retired, 0), object(retired, maxCount)} {
		l = append(l, with(o, 0, 1), with(o, 31, 2), with(o, 63, 255))
	}
	for _, o := range []api.Object{{}, object(free, 1), object(retired, maxCount), object(aPage, 1), with(object(aPage, 1), 5, 5)} {
		l = append(l, calls(o, 1), calls(o, maxCount), slot(o, 0, number(1)), slot(o, 7, key(2, 0, 0)), slot(o, 15, api.Key{Kind: 8}))
	}
	bad := []api.Key{
		{Kind: 11}, {Kind: 255}, {Oid: 1}, {Count: 1}, {Call: 1}, {Rights: 1}, {Value: 1},
		{Kind: 1, Oid: 1}, {Kind: 1, Rights: 1}, {Kind: 8, Value: 1}, {Kind: 9, Count: 1}, {Kind: 10, Call: 1},
		{Kind: 2, Rights: 8}, {Kind: 2, Call: 1}, {Kind: 2, Value: 1}, {Kind: 3, Rights: 2}, {Kind: 3, Rights: 4},
		{Kind: 4, Rights: 1}, {Kind: 5, Value: 1}, {Kind: 6, Call: 1}, {Kind: 7, Value: 1}, key(2, 64, 0), key(3, 65535, 0),
	}
	if n < maxObjects {
		bad = slices.Concat(bad, naming(n), naming(maxObjects-1))
	}
	for _, k := range bad {
		for _, at := range []int{0, 8, 15} {
			l = append(l, slot(object(aNode, 1), at, k), slot(thing(n, 1), at, k))
		}
	}
	return l
}

// wrongOnes are objects that may not be in a store of n, those among them that have no bytes.
func wrongOnes(n int) []api.Object {
	l := spoiltOnes(n)
	for _, kind := range []api.ObjKind{-1, 256, 257, 1 << 32, math.MinInt, math.MaxInt} {
		l = append(l, object(kind, 0), object(kind, 1))
	}
	for kind := range api.ObjKind(4) {
		for _, count := range []int64{-1, maxCount + 1, math.MinInt64, math.MaxInt64} {
			l = append(l, object(kind, count), calls(object(kind, 1), count))
		}
	}
	for _, k := range []api.Key{{Kind: -1}, {Kind: 257}, {Kind: math.MinInt}, key(2, -1, 0), key(2, math.MaxInt, 0), key(2, 0, -1), key(2, 0, maxCount+1), {Kind: 7, Call: -1}, {Kind: 7, Call: maxCount + 1}, {Kind: 2, Rights: -1}} {
		l = append(l, slot(object(aNode, 1), 0, k), slot(object(aNode, 1), 15, k))
	}
	return l
}

// A disk on which objects lie, and a cache over it

// place is the sector in which an object lies at first: these fall, so that none is its Oid's by chance.
func place(n, oid int) int { return 2 * (n - oid) }

// other is a sector of an object's own in which another thing lies.
func other(n, oid int) int { return place(n, oid) - 1 }

// sectorsOf is how many sectors that disk has: the first and the last are no object's.
func sectorsOf(n int) int { return 2*n + 2 }

// there is what lies at an object's place, and elsewhere what lies in its other sector.
func there(n, oid int) api.Object     { return thing(n, oid) }
func elsewhere(n, oid int) api.Object { return thing(n, oid+n+100) }

func placesOf(n int) []int {
	var l []int
	for oid := range n {
		l = append(l, place(n, oid))
	}
	return l
}

// laid tells a disk on which n objects lie at their places, and as many others elsewhere.
func laid(t *testing.T, n int) *disk.Disk {
	t.Helper()
	l := make([]sector, sectorsOf(n))
	for oid := range n {
		l[place(n, oid)], l[other(n, oid)] = sectorOf(there(n, oid)), sectorOf(elsewhere(n, oid))
	}
	return diskOf(t, l...)
}

func over(t *testing.T, d *disk.Disk, room int, places ...int) *cache.Cache {
	t.Helper()
	c, e := cache.New(d, room, places...)
	if c == nil || e != ok {
		t.Fatalf("New of Room %d, %v: %v, %v", room, places, c, e)
	}
	return c
}

// made tells a cache of n objects that lie on a disk of their own.
func made(t *testing.T, n, room int) (*cache.Cache, *disk.Disk) {
	t.Helper()
	d := laid(t, n)
	return over(t, d, room, placesOf(n)...), d
}

// What is asked

func wants(t *testing.T, what string, got, want api.Errno) {
	t.Helper()
	if got != want {
		t.Errorf("%s: %v, want %v", what, got, want)
	}
}

func gets(t *testing.T, c *cache.Cache, oid int, want api.Object) {
	t.Helper()
	if o, e := c.Get(oid); e != ok || o != want {
		t.Errorf("Get(%d) = %v of Count %d, %v, want %v of Count %d", oid, o.Kind, o.Count, e, want.Kind, want.Count)
	}
}

// getFails asks an error, and that nothing is told beside it.
func getFails(t *testing.T, c *cache.Cache, oid int, want api.Errno) {
	t.Helper()
	if o, e := c.Get(oid); e != want || o != (api.Object{}) {
		t.Errorf("Get(%d) = %v of Count %d, %v, want %v alone", oid, o.Kind, o.Count, e, want)
	}
}

func puts(t *testing.T, c *cache.Cache, oid int, o api.Object) {
	t.Helper()
	wants(t, fmt.Sprintf("Put(%d)", oid), c.Put(oid, o), ok)
}

func settles(t *testing.T, c *cache.Cache, oid, sector int) {
	t.Helper()
	wants(t, fmt.Sprintf("Settle(%d, %d)", oid, sector), c.Settle(oid, sector), ok)
}

func moves(t *testing.T, c *cache.Cache, oid, sector int) {
	t.Helper()
	wants(t, fmt.Sprintf("Move(%d, %d)", oid, sector), c.Move(oid, sector), ok)
}

func evicts(t *testing.T, c *cache.Cache, pick, want int) {
	t.Helper()
	if oid, is := c.Evict(pick); oid != want || !is {
		t.Errorf("Evict(%d) = %d, %v, want %d", pick, oid, is, want)
	}
}

func evictsNone(t *testing.T, c *cache.Cache, pick int) {
	t.Helper()
	if oid, is := c.Evict(pick); oid != 0 || is {
		t.Errorf("Evict(%d) = %d, %v, want none", pick, oid, is)
	}
}

func lies(t *testing.T, c *cache.Cache, oid, want int) {
	t.Helper()
	if sector, e := c.Place(oid); sector != want || e != ok {
		t.Errorf("Place(%d) = %d, %v, want %d", oid, sector, e, want)
	}
}

func steps(t *testing.T, d *disk.Disk, want int) {
	t.Helper()
	if got := d.Steps(); got != want {
		t.Errorf("%d steps, want %d", got, want)
	}
}

func listed(l []int) string {
	var words []string
	for _, n := range l {
		words = append(words, strconv.Itoa(n))
	}
	return strings.Join(words, " ")
}

// stands asks what is at hand, and what of that has changed: Oids with spaces between.
func stands(t *testing.T, c *cache.Cache, hand, changed string) {
	t.Helper()
	if got := listed(c.Hand()); got != hand {
		t.Errorf("Hand = %q, want %q", got, hand)
	}
	if got := listed(c.Changed()); got != changed {
		t.Errorf("Changed = %q, want %q", got, changed)
	}
}

// many is how many objects a cache has.
func many(c *cache.Cache) int {
	for n := range maxObjects {
		if _, e := c.Place(n); e != ok {
			return n
		}
	}
	return maxObjects
}

// spare tells a copy over a disk of its own, on which a free object lies in each sector: what is got and put out there nobody sees.
func spare(t *testing.T, c *cache.Cache) *cache.Cache {
	t.Helper()
	l := make([]sector, 2*maxObjects+2)
	for i := range l {
		l[i] = sectorOf(api.Object{})
	}
	x := c.Copy(diskOf(t, l...))
	if x == nil {
		t.Fatal("no copy")
	}
	return x
}

// cleanOnes are those at hand that have not changed.
func cleanOnes(c *cache.Cache) []int {
	changed := c.Changed()
	return slices.DeleteFunc(c.Hand(), func(oid int) bool { return slices.Contains(changed, oid) })
}

// goes tells the clean ones in the order in which others put them out; of those there must be enough.
func goes(t *testing.T, c *cache.Cache) string {
	t.Helper()
	x := spare(t, c)
	hand, left := x.Hand(), cleanOnes(x)
	var gone []int
	for oid := range many(x) {
		if slices.Contains(hand, oid) {
			continue
		}
		x.Get(oid)
		now := x.Hand()
		for _, was := range left {
			if !slices.Contains(now, was) {
				gone = append(gone, was)
			}
		}
		left = slices.DeleteFunc(left, func(was int) bool { return !slices.Contains(now, was) })
	}
	if len(left) > 0 {
		t.Fatalf("too few others to put out %v", left)
	}
	return listed(gone)
}

// look is all that can be told of a cache, without a step of its disk.
type look struct {
	hand, changed, goes, places, has string
}

func lookAt(t *testing.T, c *cache.Cache) look {
	t.Helper()
	var places []int
	for oid := range many(c) {
		sector, _ := c.Place(oid)
		places = append(places, sector)
	}
	x := spare(t, c)
	has := ""
	for _, oid := range x.Hand() {
		o, e := x.Get(oid)
		has += fmt.Sprint(oid, o, e, ";")
	}
	return look{listed(c.Hand()), listed(c.Changed()), goes(t, c), listed(places), has}
}

// unchanged asks that a cache stands, and its disk lies, as ahead of what is done, but for so many steps.
func unchanged(t *testing.T, what string, c *cache.Cache, d *disk.Disk, count int, do func()) {
	t.Helper()
	was, lay, stepped := lookAt(t, c), d.Copy(), d.Steps()
	do()
	if now := lookAt(t, c); now != was {
		t.Errorf("%s: the cache was %v, is %v", what, was, now)
	}
	if !disk.Same(d, lay) {
		t.Errorf("%s: the disk is another one", what)
	}
	if got := d.Steps() - stepped; got != count {
		t.Errorf("%s: %d steps, want %d", what, got, count)
	}
}

// runs does calls, each a letter and a number: g Get, p Put, s Settle at its place, m Move to its other sector and back, e Evict, h all that tells without using.
func runs(t *testing.T, c *cache.Cache, row string) {
	t.Helper()
	n := many(c)
	for _, word := range strings.Fields(row) {
		oid, err := strconv.Atoi(word[1:])
		if err != nil {
			t.Fatal(err)
		}
		switch word[0] {
		case 'g':
			if _, e := c.Get(oid); e != ok {
				t.Fatalf("%s of %q: %v", word, row, e)
			}
		case 'p':
			puts(t, c, oid, there(n, oid))
		case 's':
			settles(t, c, oid, place(n, oid))
		case 'm':
			moves(t, c, oid, other(n, oid))
			moves(t, c, oid, place(n, oid))
		case 'e':
			c.Evict(oid)
		case 'h':
			c.Hand()
			c.Changed()
			lies(t, c, oid, place(n, oid))
		default:
			t.Fatal(word)
		}
	}
}

// noNumbers are numbers that are none from 0 to n - 1.
func noNumbers(n int) []int {
	return []int{-1, -2, n, n + 1, n + 64, 4096, 1 << 32, 1<<32 + 1, math.MaxInt, math.MinInt, math.MinInt + 1}
}

// The chapter's examples

func TestExamples(t *testing.T) {
	d := diskOf(t, sectorOf(thing(3, 0)), sectorOf(thing(3, 1)), sectorOf(thing(3, 2)))
	c := over(t, d, 1, 0, 1, 2)
	gets(t, c, 0, thing(3, 0))
	stands(t, c, "0", "")
	gets(t, c, 1, thing(3, 1))
	stands(t, c, "1", "")
	puts(t, c, 0, thing(3, 9))
	stands(t, c, "0 1", "0")
	evicts(t, c, 5, 1)
	stands(t, c, "0", "0")
	settles(t, c, 0, 0)
	stands(t, c, "0", "")
	getFails(t, c, 3, errRange)
	gets(t, c, 0, thing(3, 9))
	steps(t, d, 2)
}

// P17.1

func roomsToTry() []int {
	return []int{-1, 0, 1, 2, 3, 63, 64, 65, -64, 1 << 32, 1<<32 + 1, math.MinInt, math.MinInt + 1, math.MaxInt}
}

// placesToTry are lists of places on a disk of five sectors, of all lengths and with all that may be wrong in them.
func placesToTry() [][]int {
	var long []int
	for i := range 65 {
		long = append(long, i%5)
	}
	l := [][]int{nil, {}, {0}, {4}, {2, 2}, {4, 0, 1}, {3, 3, 3, 3}, long[:63], long[:64], long, slices.Concat(long, long)}
	for _, bad := range noNumbers(5) {
		first, last, tooMany := slices.Clone(long[:64]), slices.Clone(long[:64]), slices.Clone(long)
		first[0], last[63], tooMany[64] = bad, bad, bad
		l = append(l, []int{bad}, []int{bad, 0, 1}, []int{0, bad, 1}, []int{4, 4, bad}, []int{bad, bad}, first, last, tooMany)
	}
	return l
}

func noDisks() []*disk.Disk { return []*disk.Disk{nil, {}} }

func TestNew(t *testing.T) {
	for _, room := range roomsToTry() {
		for _, places := range placesToTry() {
			for _, d := range noDisks() {
				if c, e := cache.New(d, room, places...); c != nil || e != errNil {
					t.Errorf("New of no disk, %d, %v: %v, %v, want ErrNil alone", room, places, c, e)
				}
			}
			newTells(t, room, places)
		}
	}
}

func newTells(t *testing.T, room int, places []int) {
	t.Helper()
	d := diskOf(t, sectorOf(api.Object{}), sector{}, sector{}, sector{}, sectorOf(object(aPage, 1)))
	was := d.Copy()
	want := ok
	if slices.ContainsFunc(places, func(n int) bool { return n < 0 || n > 4 }) {
		want = errRange
	}
	if room < 1 || room > 64 || len(places) < 1 || len(places) > 64 {
		want = errArg
	}
	c, e := cache.New(d, room, places...)
	if e != want || (c != nil) != (want == ok) {
		t.Errorf("New of %d, %v: %v, %v, want %v", room, places, c, e, want)
	}
	if !disk.Same(d, was) || d.Steps() != 0 {
		t.Error("New does something to the disk")
	}
	if want != ok || e != ok {
		return
	}
	stands(t, c, "", "")
	for oid, sector := range places {
		lies(t, c, oid, sector)
	}
	for _, oid := range noNumbers(len(places)) {
		if sector, e := c.Place(oid); sector != 0 || e != errRange {
			t.Errorf("Place(%d) of %d = %d, %v, want ErrRange alone", oid, len(places), sector, e)
		}
	}
	steps(t, d, 0)
}

func TestNewOverDisksOfAllSizes(t *testing.T) {
	for _, size := range []int{1, 2, 64, 65, 4095, 4096} {
		d, _ := disk.New(size)
		lies(t, over(t, d, 1, size-1), 0, size-1)
		lies(t, over(t, d, 64, 0), 0, 0)
		for _, sector := range noNumbers(size) {
			if c, e := cache.New(d, 1, 0, sector); c != nil || e != errRange {
				t.Errorf("New with the sector %d of %d: %v, want ErrRange alone", sector, size, e)
			}
		}
	}
}

// What New refused, what it did not make, and copies of these.
func noCaches() []*cache.Cache {
	refused, _ := cache.New(nil, 1, 0)
	var none *cache.Cache
	d, _ := disk.New(1)
	return []*cache.Cache{nil, {}, refused, none.Copy(d), (&cache.Cache{}).Copy(d)}
}

func TestNoCache(t *testing.T) {
	d, _ := disk.New(4)
	for _, c := range noCaches() {
		for _, n := range []int{-1, 0, 1, 3, 4, 64, math.MinInt, math.MaxInt} {
			getFails(t, c, n, errNil)
			wants(t, "Put", c.Put(n, object(aPage, 1)), errNil)
			wants(t, "Put of what may not be", c.Put(n, object(9, -1)), errNil)
			evictsNone(t, c, n)
			if sector, e := c.Place(n); sector != 0 || e != errNil {
				t.Errorf("Place of no cache: %d, %v, want ErrNil alone", sector, e)
			}
			for _, sector := range []int{-1, 0, 1, 4, math.MinInt, math.MaxInt} {
				wants(t, "Settle", c.Settle(n, sector), errNil)
				wants(t, "Move", c.Move(n, sector), errNil)
			}
		}
		if c.Hand() != nil || c.Changed() != nil || c.Copy(d) != nil || c.Copy(nil) != nil || c.Copy(&disk.Disk{}) != nil {
			t.Error("no cache tells something")
		}
	}
	steps(t, d, 0)
}

// P17.2: Get

func TestGet(t *testing.T) {
	for _, n := range []int{1, 2, 3, 17, 64} {
		c, d := made(t, n, 64)
		lay := d.Copy()
		want := []int{}
		for i := range n {
			oid := (i*5 + n/2) % n
			if slices.Contains(want, oid) {
				continue
			}
			stepped := d.Steps()
			gets(t, c, oid, there(n, oid))
			steps(t, d, stepped+1)
			want = append(want, oid)
			slices.Sort(want)
			stands(t, c, listed(want), "")
			gets(t, c, oid, there(n, oid))
			steps(t, d, stepped+1)
			stands(t, c, listed(want), "")
		}
		if !disk.Same(d, lay) {
			t.Error("Get does more than read")
		}
	}
}

// Each object is read of a store of as many as there are: neither of fewer nor of more.
func TestGetOfEachObject(t *testing.T) {
	for _, n := range []int{1, 2, 5, 63, 64} {
		places := make([]int, n)
		for _, o := range rightOnes(n) {
			d := diskOf(t, sectorOf(o))
			c := over(t, d, 1, places...)
			gets(t, c, n-1, o)
			gets(t, c, 0, o)
			steps(t, d, min(n, 2))
		}
		l := spoiltOnes(n)
		if len(l) < 100 {
			t.Fatal("too few spoilt ones")
		}
		for _, o := range l {
			d := diskOf(t, sectorOf(o))
			c := over(t, d, 1, places...)
			getFails(t, c, n-1, errRot)
			getFails(t, c, 0, errRot)
			steps(t, d, 2)
			stands(t, c, "", "")
		}
	}
}

// A key of the object 3 is none of a store of three, and one of a store of four.
func TestGetOfAGreaterStoresObject(t *testing.T) {
	o := slot(object(aNode, 1), 4, key(2, 3, 1))
	d := diskOf(t, sectorOf(o))
	getFails(t, over(t, d, 64, 0, 0, 0), 0, errRot)
	gets(t, over(t, d, 1, 0, 0, 0, 0), 0, o)
}

func TestGetOfWhatWaits(t *testing.T) {
	c, d := made(t, 3, 1)
	d.Write(place(3, 1), sectorOf(thing(3, 50)))
	gets(t, c, 1, thing(3, 50))
	d.Write(place(3, 1), sectorOf(thing(3, 51)))
	gets(t, c, 1, thing(3, 50))
	evicts(t, c, 0, 1)
	gets(t, c, 1, thing(3, 51))
	steps(t, d, 4)
}

func TestGetOfTheSameSector(t *testing.T) {
	d := diskOf(t, sector{}, sectorOf(thing(3, 4)))
	c := over(t, d, 2, 1, 1, 1)
	gets(t, c, 0, thing(3, 4))
	gets(t, c, 2, thing(3, 4))
	steps(t, d, 2)
	stands(t, c, "0 2", "")
	puts(t, c, 0, thing(3, 5))
	gets(t, c, 2, thing(3, 4))
	gets(t, c, 1, thing(3, 4))
	gets(t, c, 0, thing(3, 5))
	stands(t, c, "0 1 2", "0")
	steps(t, d, 3)
}

// busy tells a cache of twelve with changed, clean and other ones, whose order of use is not that of the Oids.
func busy(t *testing.T) (*cache.Cache, *disk.Disk) {
	t.Helper()
	c, d := made(t, 12, 3)
	runs(t, c, "g7 p3 g2 p9 g5 g7")
	stands(t, c, "2 3 5 7 9", "3 9")
	if got := goes(t, c); got != "2 5 7" {
		t.Fatalf("%q go", got)
	}
	return c, d
}

func TestGetOfNoSuchOid(t *testing.T) {
	c, d := busy(t)
	d.Fail(0)
	for _, oid := range noNumbers(12) {
		unchanged(t, "Get of no Oid", c, d, 0, func() { getFails(t, c, oid, errRange) })
	}
	getFails(t, c, 0, errDisk)
}

func TestGetThatFails(t *testing.T) {
	for _, oid := range []int{0, 1, 11} {
		c, d := busy(t)
		d.Fail(0, 1, 3)
		for range 2 {
			unchanged(t, "Get that fails", c, d, 1, func() { getFails(t, c, oid, errDisk) })
		}
		gets(t, c, oid, there(12, oid))
		stepped := d.Steps()
		gets(t, c, oid, there(12, oid))
		steps(t, d, stepped)
		getFails(t, c, 4, errDisk)
		gets(t, c, 4, there(12, 4))
	}
}

// What is at hand needs no step: neither one that fails nor a sector that is spoilt is come to.
func TestGetOfWhatIsAtHand(t *testing.T) {
	c, d := busy(t)
	d.Fail(0)
	for _, oid := range []int{2, 3, 5, 7, 9} {
		d.Spoil(place(12, oid), 0, 1)
	}
	stepped := d.Steps()
	for _, oid := range []int{9, 2, 7, 3, 5} {
		gets(t, c, oid, there(12, oid))
	}
	steps(t, d, stepped)
	stands(t, c, "2 3 5 7 9", "3 9")
	getFails(t, c, 0, errDisk)
	evicts(t, c, 0, 2)
	getFails(t, c, 2, errRot)
}

// The error of the step comes ahead of that of what lies there.
func TestGetThatFailsOfWhatIsSpoilt(t *testing.T) {
	c, d := busy(t)
	d.Spoil(place(12, 6), 9, 4)
	d.Fail(0)
	unchanged(t, "Get that fails", c, d, 1, func() { getFails(t, c, 6, errDisk) })
	unchanged(t, "Get of what is spoilt", c, d, 1, func() { getFails(t, c, 6, errRot) })
	d.Spoil(place(12, 6), 9, 4)
	gets(t, c, 6, there(12, 6))
}

func TestGetOfWhatIsSpoilt(t *testing.T) {
	c, d := busy(t)
	for _, at := range []int{0, 1, 3, 4, 11, 12, 100, 331, 332, 395, 396, 400, 507, 508, 511} {
		for _, bits := range []byte{1, 0x80, 0x18} {
			d.Spoil(place(12, 8), at, bits)
			unchanged(t, "Get of what is spoilt", c, d, 1, func() { getFails(t, c, 8, errRot) })
			d.Spoil(place(12, 8), at, bits)
		}
	}
	whole := sectorOf(there(12, 8))
	noSum, behind, pad := whole, whole, whole
	clear(noSum[summed:])
	behind[396], pad[1] = 1, 1
	full := sector{}
	for i := range full {
		full[i] = 255
	}
	for _, b := range []sector{{}, full, noSum, sealed(behind), sealed(pad), sealed(full)} {
		d.Write(place(12, 8), b)
		unchanged(t, "Get of no object's sector", c, d, 1, func() { getFails(t, c, 8, errRot) })
	}
	for _, o := range []api.Object{object(4, 1), slot(object(aNode, 1), 0, key(2, 12, 1)), calls(object(free, 1), 1)} {
		d.Write(place(12, 8), sectorOf(o))
		unchanged(t, "Get of what may not be", c, d, 1, func() { getFails(t, c, 8, errRot) })
	}
	d.Write(place(12, 8), sealed(sector{}))
	gets(t, c, 8, api.Object{})
	stands(t, c, "3 5 7 8 9", "3 9")
}

// P17.2: Put

func TestPut(t *testing.T) {
	for _, n := range []int{1, 2, 5, 64} {
		c, d := made(t, n, 1)
		d.Fail(0)
		for _, o := range rightOnes(n) {
			puts(t, c, n-1, o)
			gets(t, c, n-1, o)
			stands(t, c, listed([]int{n - 1}), listed([]int{n - 1}))
		}
		for oid := range n {
			puts(t, c, oid, thing(n, oid+40))
		}
		for oid := range n {
			gets(t, c, oid, thing(n, oid+40))
			lies(t, c, oid, place(n, oid))
		}
		if len(c.Hand()) != n || len(c.Changed()) != n {
			t.Errorf("%v are at hand, %v have changed", c.Hand(), c.Changed())
		}
		steps(t, d, 0)
		if !disk.Same(d, laid(t, n)) {
			t.Error("Put does something to the disk")
		}
	}
}

func TestPutOfEach(t *testing.T) {
	for _, x := range []struct {
		oid                 int
		hand, changed, goes string
	}{
		{5, "2 3 5 7 9", "3 5 9", "2 7"},     // clean ahead of it
		{2, "2 3 5 7 9", "2 3 9", "5 7"},     // the one that would go first
		{7, "2 3 5 7 9", "3 7 9", "2 5"},     // the one used last
		{3, "2 3 5 7 9", "3 9", "2 5 7"},     // changed ahead of it
		{0, "0 2 3 5 7 9", "0 3 9", "2 5 7"}, // not at hand
		{11, "2 3 5 7 9 11", "3 9 11", "2 5 7"},
	} {
		c, d := busy(t)
		stepped := d.Steps()
		for _, o := range []api.Object{thing(12, 70), thing(12, 71), thing(12, 71), {}} {
			puts(t, c, x.oid, o)
			stands(t, c, x.hand, x.changed)
			if got := goes(t, c); got != x.goes {
				t.Errorf("behind Put(%d) %q go, want %q", x.oid, got, x.goes)
			}
			gets(t, c, x.oid, o)
		}
		steps(t, d, stepped)
	}
}

// The same object as the one at hand is a changed one, too.
func TestPutOfTheSame(t *testing.T) {
	c, _ := made(t, 3, 2)
	gets(t, c, 1, there(3, 1))
	puts(t, c, 1, there(3, 1))
	stands(t, c, "1", "1")
	puts(t, c, 1, there(3, 1))
	stands(t, c, "1", "1")
	gets(t, c, 1, there(3, 1))
	stands(t, c, "1", "1")
	evictsNone(t, c, 0)
}

func TestPutRefuses(t *testing.T) {
	c, d := busy(t)
	bad := wrongOnes(12)
	if len(bad) < 200 {
		t.Fatal("too few wrong ones")
	}
	for _, oid := range []int{0, 2, 3, 7, 11} {
		unchanged(t, "Put of what may not be", c, d, 0, func() {
			for _, o := range bad {
				wants(t, "Put of what may not be", c.Put(oid, o), errArg)
			}
		})
	}
	for _, oid := range noNumbers(12) {
		unchanged(t, "Put of no Oid", c, d, 0, func() {
			wants(t, "Put of no Oid", c.Put(oid, thing(12, 1)), errRange)
			for _, o := range bad {
				wants(t, "Put of no Oid", c.Put(oid, o), errRange)
			}
		})
	}
}

func TestPutByTheNumberOfObjects(t *testing.T) {
	for _, n := range []int{1, 2, 5, 63, 64} {
		c, _ := made(t, n, 64)
		for _, o := range wrongOnes(n) {
			wants(t, "Put of what may not be", c.Put(0, o), errArg)
		}
		stands(t, c, "", "")
		for _, k := range naming(n - 1) {
			puts(t, c, 0, slot(object(aNode, 0), 15, k))
		}
	}
}

// P17.2: Room

func TestRoom(t *testing.T) {
	for _, n := range []int{1, 3, 10, 64} {
		for _, room := range []int{1, 2, 3, n - 1, n, n + 1, 63, 64} {
			if room < 1 || room > 64 {
				continue
			}
			c, d := made(t, n, room)
			for oid := range n {
				gets(t, c, oid, there(n, oid))
				var want []int
				for i := max(0, oid-room+1); i <= oid; i++ {
					want = append(want, i)
				}
				stands(t, c, listed(want), "")
			}
			steps(t, d, n)
			gets(t, c, n-1, there(n, n-1))
			steps(t, d, n)
			gets(t, c, 0, there(n, 0))
			if want := n + 1; room < n {
				steps(t, d, want)
			} else {
				steps(t, d, n)
			}
		}
	}
}

func TestWhichOneGoes(t *testing.T) {
	for _, x := range []struct {
		room                     int
		row, hand, changed, goes string
	}{
		{1, "g4", "4", "", "4"},
		{1, "g4 g4", "4", "", "4"},
		{1, "g4 g0 g4", "4", "", "4"},
		{1, "g0 p1", "0 1", "1", "0"},
		{1, "p1 g0", "0 1", "1", "0"},
		{1, "p0 p1 p2 p3 g4", "0 1 2 3 4", "0 1 2 3", "4"},
		{1, "p0 p1 p2 p3 g4 g5", "0 1 2 3 5", "0 1 2 3", "5"},
		{1, "g0 p0 g1", "0 1", "0", "1"},
		{1, "g0 p0 g1 s0", "0", "", "0"},
		{1, "p0 p1 s0 s1", "1", "", "1"},
		{1, "p0 p1 s1 s0", "0", "", "0"},
		{1, "p0 s0 g1", "1", "", "1"},
		{2, "g0 g1", "0 1", "", "0 1"},
		{2, "g1 g0", "0 1", "", "1 0"},
		{2, "g0 g1 g2", "1 2", "", "1 2"},
		{2, "g0 g1 g0", "0 1", "", "1 0"},
		{2, "g0 g1 g1", "0 1", "", "0 1"},
		{2, "g0 g1 g0 g2", "0 2", "", "0 2"},
		{2, "g0 g1 p0", "0 1", "0", "1"},
		{2, "g0 g1 p0 g2", "0 1 2", "0", "1 2"},
		{2, "g0 g1 p0 g2 g3", "0 2 3", "0", "2 3"},
		{2, "g0 g1 p0 s0", "0 1", "", "1 0"},
		{2, "g0 g1 p0 s0 g2", "0 2", "", "0 2"},
		{2, "g0 g1 p1 s1 g2", "1 2", "", "1 2"},
		{2, "p0 g1 g2 s0", "0 2", "", "2 0"},
		{2, "p0 g1 g2 s0 g3", "0 3", "", "0 3"},
		{2, "p0 g1 s0", "0 1", "", "1 0"},
		{2, "p0 p1 g0 s1 s0", "0 1", "", "1 0"},
		{2, "p0 p1 p2 s1 s2 s0", "0 2", "", "2 0"},
		{2, "g0 g1 s0 g2", "1 2", "", "1 2"},
		{2, "g0 g1 s1 s0 g2", "1 2", "", "1 2"},
		{2, "g0 g1 s5 g2", "1 2", "", "1 2"},
		{2, "g0 g1 m0 g2", "1 2", "", "1 2"},
		{2, "g0 g1 h0 g2", "1 2", "", "1 2"},
		{2, "g0 g1 e0 g2", "1 2", "", "1 2"},
		{2, "g0 g1 e0 g2 g3", "2 3", "", "2 3"},
		{2, "g0 g1 e1 g1 g2", "1 2", "", "1 2"},
		{2, "g0 g1 g2 e1 g0 g3", "0 3", "", "0 3"},
		{3, "g0 g1 g2 g0 g3", "0 2 3", "", "2 0 3"},
		{3, "g0 g1 g2 g1 g3 g4", "1 3 4", "", "1 3 4"},
		{3, "g0 g1 g2 g0 g1 g3", "0 1 3", "", "0 1 3"},
		{3, "g0 g1 g2 p1 g1 g3", "0 1 2 3", "1", "0 2 3"},
		{3, "g0 g1 g2 p1 g3 s1", "1 2 3", "", "2 3 1"},
		{3, "g0 p1 g2 p3 g4 s3 s1", "1 3 4", "", "4 3 1"},
		{3, "g0 p1 g2 p3 g4 g0 s1", "0 1 3 4", "3", "4 0 1"},
		{3, "g0 g1 g2 e0 e0 e0 g3 g4", "3 4", "", "3 4"},
	} {
		c, _ := made(t, 12, x.room)
		runs(t, c, x.row)
		stands(t, c, x.hand, x.changed)
		if got := goes(t, c); got != x.goes {
			t.Errorf("Room %d, %q: %q go, want %q", x.room, x.row, got, x.goes)
		}
		if t.Failed() {
			t.Fatalf("Room %d, %q", x.room, x.row)
		}
	}
}

// Changed ones are kept, however many there are, and take no room.
func TestChangedOnesAreKept(t *testing.T) {
	const n = 64
	c, d := made(t, n, 1)
	for oid := range n - 2 {
		puts(t, c, oid, thing(n, oid+50))
	}
	for range 3 {
		gets(t, c, n-2, there(n, n-2))
		gets(t, c, n-1, there(n, n-1))
	}
	steps(t, d, 6)
	if got := len(c.Changed()); got != n-2 {
		t.Errorf("%d changed ones, want %d", got, n-2)
	}
	if got := cleanOnes(c); !slices.Equal(got, []int{n - 1}) {
		t.Errorf("%v are clean", got)
	}
	for oid := range n - 2 {
		gets(t, c, oid, thing(n, oid+50))
	}
	steps(t, d, 6)
}

// P17.3

// chosen is which of n a choice is.
func chosen(pick, n int) int {
	return int(new(big.Int).Mod(big.NewInt(int64(pick)), big.NewInt(int64(n))).Int64())
}

func picks() []int {
	l := []int{math.MinInt, math.MinInt + 1, math.MinInt + 2, math.MaxInt, math.MaxInt - 1, math.MaxInt - 2, 1 << 32, -1 << 32}
	for n := -9; n <= 9; n++ {
		l = append(l, n)
	}
	return l
}

func TestEvict(t *testing.T) {
	for _, x := range []struct {
		row   string
		clean []int
	}{
		{"g5", []int{5}},
		{"g5 g0", []int{0, 5}},
		{"g7 g2 g4", []int{2, 4, 7}},
		{"g7 g2 g4 g7", []int{2, 4, 7}},
		{"p1 g5", []int{5}},
		{"p9 g5 p0", []int{5}},
		{"p3 g7 p5 g2 p0 g4 p11", []int{2, 4, 7}},
		{"g3 g7 g5 p5", []int{3, 7}},
		{"p3 p7 p5 s5 s3", []int{3, 5}},
		{"g3 g7 g8 g5 e1", []int{3, 7, 8}},
		{"g11 g10 g9 g8 g0", []int{0, 8, 9, 10, 11}},
	} {
		for _, pick := range picks() {
			c, d := made(t, 12, 5)
			runs(t, c, x.row)
			was, changed, order := d.Copy(), c.Changed(), strings.Fields(goes(t, c))
			left := x.clean
			for len(left) > 0 {
				at := chosen(pick, len(left))
				oid := left[at]
				evicts(t, c, pick, oid)
				left = slices.Delete(slices.Clone(left), at, at+1)
				hand := append(slices.Clone(changed), left...)
				slices.Sort(hand)
				stands(t, c, listed(hand), listed(changed))
				order = slices.DeleteFunc(order, func(word string) bool { return word == strconv.Itoa(oid) })
				if got := goes(t, c); got != strings.Join(order, " ") {
					t.Errorf("behind Evict %q go, want %q", got, order)
				}
			}
			evictsNone(t, c, pick)
			stands(t, c, listed(changed), listed(changed))
			if !disk.Same(d, was) || d.Steps() != was.Steps() {
				t.Error("Evict does something to the disk")
			}
			if t.Failed() {
				t.Fatalf("%q, Evict(%d)", x.row, pick)
			}
		}
	}
}

func TestEvictOfNone(t *testing.T) {
	for _, row := range []string{"", "p0", "p3 p0 p11", "g4 p4", "g4 e0", "g4 e0 p4 p1"} {
		c, d := made(t, 12, 2)
		runs(t, c, row)
		for _, pick := range picks() {
			unchanged(t, "Evict of none", c, d, 0, func() { evictsNone(t, c, pick) })
		}
	}
}

func TestGetBehindEvict(t *testing.T) {
	c, d := made(t, 3, 2)
	gets(t, c, 1, there(3, 1))
	evicts(t, c, -1, 1)
	gets(t, c, 1, there(3, 1))
	steps(t, d, 2)
	moves(t, c, 1, other(3, 1))
	gets(t, c, 1, there(3, 1))
	steps(t, d, 2)
	evicts(t, c, 7, 1)
	gets(t, c, 1, elsewhere(3, 1))
	steps(t, d, 3)
	stands(t, c, "1", "")
}

func TestChangedAndHand(t *testing.T) {
	for _, x := range []struct{ row, hand, changed string }{
		{"", "", ""},
		{"g0", "0", ""},
		{"p0", "0", "0"},
		{"p11 p0 p5", "0 5 11", "0 5 11"},
		{"g11 p10 g9 p2 g0", "0 2 9 10 11", "2 10"},
		{"p10 p9 p8 g7 g3 g5 s9", "3 5 7 8 9 10", "8 10"},
		{"p10 p9 s9 s10", "9 10", ""},
		{"p10 p9 s9 s10 e0 e0", "", ""},
		{"p1 g1 e0", "1", "1"},
	} {
		c, d := made(t, 12, 8)
		runs(t, c, x.row)
		stepped := d.Steps()
		for range 3 {
			stands(t, c, x.hand, x.changed)
		}
		steps(t, d, stepped)
	}
}

// P17.4

func TestSettleOfAChangedOne(t *testing.T) {
	c, d := busy(t)
	puts(t, c, 3, thing(12, 80))
	stepped := d.Steps()
	settles(t, c, 3, other(12, 3))
	lies(t, c, 3, other(12, 3))
	stands(t, c, "3 5 7 9", "9")
	if got := goes(t, c); got != "5 7 3" {
		t.Errorf("%q go, want 5 7 3", got)
	}
	gets(t, c, 3, thing(12, 80))
	steps(t, d, stepped)
	evicts(t, c, 0, 3)
	gets(t, c, 3, elsewhere(12, 3))
	steps(t, d, stepped+1)
	settles(t, c, 9, 0)
	stands(t, c, "3 7 9", "")
	lies(t, c, 9, 0)
	gets(t, c, 9, there(12, 9))
	evicts(t, c, 2, 9)
	getFails(t, c, 9, errRot)
}

// Of what has not changed just the place is another one: what is at hand stays, neither used nor read anew.
func TestSettleOfACleanOne(t *testing.T) {
	for _, oid := range []int{2, 5, 7} {
		c, d := busy(t)
		stepped := d.Steps()
		settles(t, c, oid, other(12, oid))
		lies(t, c, oid, other(12, oid))
		stands(t, c, "2 3 5 7 9", "3 9")
		if got := goes(t, c); got != "2 5 7" {
			t.Errorf("behind Settle(%d) %q go, want 2 5 7", oid, got)
		}
		gets(t, c, oid, there(12, oid))
		steps(t, d, stepped)
		evicts(t, c, slices.Index([]int{2, 5, 7}, oid), oid)
		gets(t, c, oid, elsewhere(12, oid))
	}
}

func TestSettleOfOneThatIsNotAtHand(t *testing.T) {
	for _, oid := range []int{0, 4, 11} {
		c, d := busy(t)
		stepped := d.Steps()
		settles(t, c, oid, other(12, oid))
		lies(t, c, oid, other(12, oid))
		stands(t, c, "2 3 5 7 9", "3 9")
		if got := goes(t, c); got != "2 5 7" {
			t.Errorf("behind Settle(%d) %q go, want 2 5 7", oid, got)
		}
		steps(t, d, stepped)
		gets(t, c, oid, elsewhere(12, oid))
		steps(t, d, stepped+1)
	}
}

func TestMove(t *testing.T) {
	for oid := range 12 {
		c, d := busy(t)
		hand, stepped := c.Hand(), d.Steps()
		moves(t, c, oid, other(12, oid))
		for i := range 12 {
			if i == oid {
				lies(t, c, i, other(12, i))
			} else {
				lies(t, c, i, place(12, i))
			}
		}
		stands(t, c, "2 3 5 7 9", "3 9")
		if got := goes(t, c); got != "2 5 7" {
			t.Errorf("behind Move(%d) %q go, want 2 5 7", oid, got)
		}
		steps(t, d, stepped)
		if slices.Contains(hand, oid) {
			gets(t, c, oid, there(12, oid))
			steps(t, d, stepped)
		} else {
			gets(t, c, oid, elsewhere(12, oid))
			steps(t, d, stepped+1)
		}
	}
}

// A changed one that is moved is changed still; it lies where that was told last.
func TestMoveOfAChangedOne(t *testing.T) {
	c, d := made(t, 3, 1)
	puts(t, c, 0, thing(3, 60))
	moves(t, c, 0, other(3, 1))
	lies(t, c, 0, other(3, 1))
	stands(t, c, "0", "0")
	evictsNone(t, c, 0)
	gets(t, c, 0, thing(3, 60))
	settles(t, c, 0, other(3, 0))
	lies(t, c, 0, other(3, 0))
	stands(t, c, "0", "")
	gets(t, c, 1, there(3, 1))
	stands(t, c, "1", "")
	gets(t, c, 0, elsewhere(3, 0))
	steps(t, d, 2)
}

func TestPlacesThatMayBe(t *testing.T) {
	c, d := busy(t)
	last := d.Size() - 1
	for _, sector := range []int{0, last, 1, 1, place(12, 4), 0} {
		for _, oid := range []int{0, 7, 3, 11} {
			moves(t, c, oid, sector)
			lies(t, c, oid, sector)
			settles(t, c, oid, last-sector)
			lies(t, c, oid, last-sector)
		}
	}
}

func TestSettleAndMoveRefuse(t *testing.T) {
	c, d := busy(t)
	oids := append(noNumbers(12), 0, 2, 3, 7, 11)
	sectors := append(noNumbers(d.Size()), 0, 1, place(12, 3), d.Size()-1)
	unchanged(t, "what is refused", c, d, 0, func() {
		for i, oid := range oids {
			for j, sector := range sectors {
				if i >= len(oids)-5 && j >= len(sectors)-4 {
					continue
				}
				wants(t, fmt.Sprintf("Settle(%d, %d)", oid, sector), c.Settle(oid, sector), errRange)
				wants(t, fmt.Sprintf("Move(%d, %d)", oid, sector), c.Move(oid, sector), errRange)
			}
		}
	})
}

// A Copy

func TestCopyOfNone(t *testing.T) {
	c, d := busy(t)
	for _, none := range noDisks() {
		unchanged(t, "Copy over no disk", c, d, 0, func() {
			if c.Copy(none) != nil {
				t.Error("a copy over no disk")
			}
		})
	}
	for _, none := range noCaches() {
		if none.Copy(d) != nil {
			t.Error("a copy of no cache")
		}
	}
}

func TestCopyStandsAlike(t *testing.T) {
	c, d := busy(t)
	puts(t, c, 9, thing(12, 33))
	moves(t, c, 4, other(12, 4))
	moves(t, c, 7, other(12, 7))
	to := d.Copy()
	lay, stepped := to.Copy(), to.Steps()
	var x *cache.Cache
	unchanged(t, "Copy", c, d, 0, func() { x = c.Copy(to) })
	if was, is := lookAt(t, c), lookAt(t, x); was != is {
		t.Errorf("a copy of %v is %v", was, is)
	}
	if !disk.Same(to, lay) || to.Steps() != stepped {
		t.Error("Copy does something to the disk")
	}
	for _, oid := range noNumbers(12) {
		getFails(t, x, oid, errRange)
	}
	wants(t, "Put", x.Put(0, slot(object(aNode, 1), 0, key(2, 12, 1))), errArg)
	runs(t, x, "g0 g1")
	stands(t, x, "0 1 3 7 9", "3 9")
}

// What is read is read of the copy's own disk.
func TestCopyOverAnotherDisk(t *testing.T) {
	c, d := busy(t)
	to := d.Copy()
	stepped := d.Steps()
	x := c.Copy(to)
	to.Write(place(12, 0), sectorOf(thing(12, 90)))
	d.Write(place(12, 1), sectorOf(thing(12, 91)))
	gets(t, x, 0, thing(12, 90))
	gets(t, x, 1, there(12, 1))
	steps(t, d, stepped+1)
	steps(t, to, stepped+3)
	gets(t, c, 1, thing(12, 91))
	gets(t, c, 0, there(12, 0))
	steps(t, d, stepped+3)
	steps(t, to, stepped+3)
	to.Fail(0)
	gets(t, c, 4, there(12, 4))
	getFails(t, x, 4, errDisk)
	gets(t, x, 4, there(12, 4))
	stands(t, c, "0 1 3 4 9", "3 9")
	stands(t, x, "0 1 3 4 9", "3 9")
}

func TestCopyOverTheSameDisk(t *testing.T) {
	c, d := busy(t)
	stepped := d.Steps()
	x := c.Copy(d)
	gets(t, x, 0, there(12, 0))
	steps(t, d, stepped+1)
	gets(t, c, 0, there(12, 0))
	steps(t, d, stepped+2)
	d.Write(place(12, 1), sectorOf(thing(12, 91)))
	gets(t, x, 1, thing(12, 91))
	gets(t, c, 1, thing(12, 91))
	stands(t, c, "0 1 3 7 9", "3 9")
	stands(t, x, "0 1 3 7 9", "3 9")
}

// Sectors are asked of the copy's own disk, a greater one or a smaller one.
func TestCopyOverADiskOfAnotherSize(t *testing.T) {
	c, d := busy(t)
	more, _ := disk.New(d.Size() + 5)
	x := c.Copy(more)
	moves(t, x, 0, d.Size()+4)
	settles(t, x, 3, d.Size())
	lies(t, x, 0, d.Size()+4)
	lies(t, x, 3, d.Size())
	wants(t, "Move", x.Move(0, d.Size()+5), errRange)
	wants(t, "Move", c.Move(0, d.Size()+4), errRange)
	wants(t, "Settle", c.Settle(3, d.Size()), errRange)
	fewer := diskOf(t, sectorOf(thing(12, 5)), sectorOf(thing(12, 6)))
	x = c.Copy(fewer)
	wants(t, "Move", x.Move(0, 2), errRange)
	unchanged(t, "Get of a sector that the disk has not", x, fewer, 0, func() { getFails(t, x, 0, errRange) })
	gets(t, x, 7, there(12, 7))
	gets(t, x, 9, there(12, 9))
	moves(t, x, 0, 1)
	gets(t, x, 0, thing(12, 6))
	steps(t, fewer, 1)
}

// Whatever is done in one of them, the other one stands as it did; each order of both is tried.
func TestCopiesGoOnApart(t *testing.T) {
	does := []func(c *cache.Cache){
		func(c *cache.Cache) { c.Get(0) },
		func(c *cache.Cache) { c.Get(2) },
		func(c *cache.Cache) { c.Get(5) },
		func(c *cache.Cache) { c.Get(3) },
		func(c *cache.Cache) { c.Put(0, thing(12, 44)) },
		func(c *cache.Cache) { c.Put(2, thing(12, 44)) },
		func(c *cache.Cache) { c.Put(3, thing(12, 44)) },
		func(c *cache.Cache) { c.Evict(0) },
		func(c *cache.Cache) { c.Evict(1) },
		func(c *cache.Cache) { c.Evict(2) },
		func(c *cache.Cache) { c.Settle(3, place(12, 3)) },
		func(c *cache.Cache) { c.Settle(9, other(12, 9)) },
		func(c *cache.Cache) { c.Settle(2, other(12, 2)) },
		func(c *cache.Cache) { c.Settle(0, other(12, 0)) },
		func(c *cache.Cache) { c.Move(0, other(12, 0)) },
		func(c *cache.Cache) { c.Move(3, other(12, 3)) },
		func(c *cache.Cache) { c.Move(11, 0) },
	}
	for i, first := range does {
		for j, second := range does {
			c, d := busy(t)
			alone, _ := busy(t)
			x := c.Copy(d.Copy())
			was := lookAt(t, c)
			first(x)
			if now := lookAt(t, c); now != was {
				t.Fatalf("%d: behind a call on a copy the cache was %v, is %v", i, was, now)
			}
			now := lookAt(t, x)
			second(c)
			if then := lookAt(t, x); then != now {
				t.Fatalf("%d, %d: behind a call on the cache its copy was %v, is %v", i, j, now, then)
			}
			second(alone)
			if got, want := lookAt(t, c), lookAt(t, alone); got != want {
				t.Fatalf("%d, %d: with a copy it is %v, without one %v", i, j, got, want)
			}
		}
	}
}

func TestCopyOfACopy(t *testing.T) {
	c, d := busy(t)
	x := c.Copy(d.Copy())
	y := x.Copy(d.Copy())
	puts(t, x, 0, thing(12, 1))
	settles(t, y, 9, 0)
	stands(t, c, "2 3 5 7 9", "3 9")
	stands(t, x, "0 2 3 5 7 9", "0 3 9")
	stands(t, y, "3 5 7 9", "3")
	if got := goes(t, y); got != "5 7 9" {
		t.Errorf("%q go, want 5 7 9", got)
	}
}

// P17.5

// lot tells numbers that look drawn by lot, the same ones each time.
type lot uint32

func (l *lot) next(count int) int {
	*l = *l*1664525 + 1013904223
	return int(*l>>16) % count
}

// pick draws a choice, now and then one of the edges.
func (l *lot) pick() int {
	if l.next(4) == 0 {
		return picks()[l.next(len(picks()))]
	}
	return l.next(40) - 20
}

// pair is two caches of which just one has things put out, each over its own disk, and what either should tell.
type pair struct {
	t      *testing.T
	n      int
	a, b   *cache.Cache
	da, db *disk.Disk
	should []api.Object
}

func newPair(t *testing.T, n, roomA, roomB int) *pair {
	p := &pair{t: t, n: n, da: laid(t, n), db: laid(t, n)}
	p.a, p.b = over(t, p.da, roomA, placesOf(n)...), over(t, p.db, roomB, placesOf(n)...)
	for oid := range n {
		p.should = append(p.should, there(n, oid))
	}
	return p
}

func (p *pair) get(oid int) {
	gets(p.t, p.a, oid, p.should[oid])
	gets(p.t, p.b, oid, p.should[oid])
}

func (p *pair) put(oid int, o api.Object) {
	puts(p.t, p.a, oid, o)
	puts(p.t, p.b, oid, o)
	p.should[oid] = o
}

// lay has an object lie in its other sector, as it is, and tells the caches so.
func (p *pair) lay(oid int, tell func(c *cache.Cache, oid, sector int) api.Errno) {
	sector, _ := p.a.Place(oid)
	sector = place(p.n, oid) + other(p.n, oid) - sector
	p.da.Write(sector, sectorOf(p.should[oid]))
	p.db.Write(sector, sectorOf(p.should[oid]))
	wants(p.t, "an object is laid", tell(p.a, oid, sector), ok)
	wants(p.t, "an object is laid", tell(p.b, oid, sector), ok)
}

func TestWhatIsToldHangsNotOnRoom(t *testing.T) {
	for seed := range lot(150) {
		draw := seed
		n := 1 + draw.next(9)
		p := newPair(t, n, 1+draw.next(n+1), 1+draw.next(64))
		for range 120 {
			oid := draw.next(n)
			switch draw.next(9) {
			case 0, 1:
				p.put(oid, thing(n, draw.next(300)))
			case 2:
				p.lay(oid, (*cache.Cache).Settle)
			case 3:
				p.lay(oid, (*cache.Cache).Move)
			case 4:
				p.a.Evict(draw.pick())
			case 5:
				p.a = p.a.Copy(p.da)
			default:
				p.get(oid)
			}
			if changed := p.a.Changed(); !slices.Equal(changed, p.b.Changed()) {
				t.Errorf("%v have changed, with another Room %v", changed, p.b.Changed())
			}
			if t.Failed() {
				t.Fatalf("seed %d", seed)
			}
		}
		for oid := range n {
			p.get(oid)
		}
	}
}

// Of all choices and small Rooms: what is put out comes back as it was.
func TestWhatIsPutOutComesBack(t *testing.T) {
	for room := 1; room <= 5; room++ {
		for _, pick := range picks() {
			p := newPair(t, 5, room, 64)
			for round := range 8 {
				for oid := range 5 {
					p.get(oid)
					p.a.Evict(pick)
					if (oid+round)%3 == 0 {
						p.put(oid, thing(5, oid*10+round))
					}
					p.a.Evict(pick)
					if (oid+round)%4 == 0 {
						p.lay(oid, (*cache.Cache).Settle)
					}
					p.a.Evict(pick)
				}
			}
			for oid := range 5 {
				p.get(oid)
			}
		}
	}
}

// Memory

func TestNewKeepsNothing(t *testing.T) {
	d := laid(t, 3)
	all := append(placesOf(3), 77, 78)
	given := all[:3]
	c := over(t, d, 2, given...)
	moves(t, c, 0, 0)
	settles(t, c, 2, 1)
	c.Get(1)
	if !slices.Equal(all, append(placesOf(3), 77, 78)) {
		t.Error("what was handed to New is changed")
	}
	clear(all)
	lies(t, c, 1, place(3, 1))
	lies(t, c, 0, 0)
	evicts(t, c, 0, 1)
	gets(t, c, 1, there(3, 1))
}

func TestAnswersAreNewMemory(t *testing.T) {
	c, _ := busy(t)
	for _, tell := range []func() []int{c.Hand, c.Changed} {
		l, m := tell(), tell()
		was := slices.Clone(l)
		for i := range l[:cap(l)] {
			l[:cap(l)][i] = 99
		}
		if !slices.Equal(m, was) || !slices.Equal(tell(), was) {
			t.Error("an answer shares memory")
		}
	}
	hand, changed := c.Hand(), c.Changed()
	was := lookAt(t, c)
	clear(hand)
	clear(changed)
	if now := lookAt(t, c); now != was {
		t.Errorf("behind a change of answers the cache was %v, is %v", was, now)
	}
	hand, changed = c.Hand(), c.Changed()
	runs(t, c, "p0 g1 s3 e0")
	if listed(hand) != "2 3 5 7 9" || listed(changed) != "3 9" {
		t.Error("answers go on with the cache")
	}
}

func TestObjectsAreOnesOwn(t *testing.T) {
	c, _ := made(t, 4, 4)
	o := thing(4, 1)
	puts(t, c, 0, o)
	o.Slots[0], o.Bytes[0], o.Count = api.Key{}, 0, 1
	got, _ := c.Get(0)
	got.Slots[1], got.Bytes[1], got.Kind = api.Key{}, 0, free
	gets(t, c, 0, thing(4, 1))
	got, _ = c.Get(1)
	got.Slots[1], got.Bytes[1] = api.Key{}, 0
	gets(t, c, 1, there(4, 1))
}

// Whatever is handed in

func TestWhateverIsHandedIn(t *testing.T) {
	d := laid(t, 4)
	edges := []int{math.MinInt, -1, 0, 1, 3, 4, 9, 10, 64, 65, 4096, math.MaxInt}
	caches := append(noCaches(), over(t, d, 1, placesOf(4)...), over(t, d, 64, 0, 0))
	for _, c := range caches {
		for _, n := range edges {
			c.Get(n)
			c.Put(n, object(api.ObjKind(n), int64(n)))
			c.Put(n, slot(object(aNode, 1), 0, api.Key{Kind: api.KeyKind(n), Oid: n, Rights: api.Rights(n)}))
			c.Evict(n)
			c.Place(n)
			for _, sector := range edges {
				c.Settle(n, sector)
				c.Move(n, sector)
			}
			c.Hand()
			c.Changed()
			c.Copy(nil)
			c.Copy(&disk.Disk{}).Get(n)
			c.Copy(d).Get(n)
		}
	}
}

// The whole, held against a plain one

// sheet is what lies in a disk's sectors: objects, or nothing that is one.
type sheet struct {
	d       *disk.Disk
	objects map[int]api.Object
	steps   int
	failing []int // by the numbers of all steps
}

func (s *sheet) write(sector int, o api.Object, whole bool) {
	b := sectorOf(o)
	if !whole {
		b[17] ^= 64
	}
	s.steps++
	if s.d.Write(sector, b) != ok {
		return
	}
	delete(s.objects, sector)
	if whole {
		s.objects[sector] = o
	}
}

func (s *sheet) copied() *sheet {
	x := &sheet{s.d.Copy(), map[int]api.Object{}, s.steps, nil}
	for sector, o := range s.objects {
		x.objects[sector] = o
	}
	x.fail()
	return x
}

func (s *sheet) fail(numbers ...int) {
	s.d.Fail(numbers...)
	s.failing = nil
	for _, n := range numbers {
		s.failing = append(s.failing, s.steps+n)
	}
}

// one is an object at hand.
type one struct {
	oid     int
	o       api.Object
	changed bool
}

// plain is the document's words laid down plainly, with what is at hand in the order in which it was used.
type plain struct {
	room   int
	places []int
	hand   []one
	lies   *sheet
}

func (p *plain) find(oid int) int {
	return slices.IndexFunc(p.hand, func(x one) bool { return x.oid == oid })
}

// use has an object at hand, behind all others, and puts out the first clean one if there are too many of these.
func (p *plain) use(x one) {
	if at := p.find(x.oid); at >= 0 {
		p.hand = slices.Delete(slices.Clone(p.hand), at, at+1)
	}
	p.hand = append(slices.Clone(p.hand), x)
	if l := p.clean(); len(l) > p.room {
		at := slices.IndexFunc(p.hand, func(x one) bool { return !x.changed })
		p.hand = slices.Delete(slices.Clone(p.hand), at, at+1)
	}
}

func (p *plain) listed(want func(one) bool) []int {
	var l []int
	for _, x := range p.hand {
		if want(x) {
			l = append(l, x.oid)
		}
	}
	slices.Sort(l)
	return l
}

func (p *plain) clean() []int { return p.listed(func(x one) bool { return !x.changed }) }

func (p *plain) has(oid int) bool { return oid >= 0 && oid < len(p.places) }

func (p *plain) hasSector(n int) bool { return n >= 0 && n < p.lies.d.Size() }

func (p *plain) get(oid int) (api.Object, api.Errno) {
	if !p.has(oid) {
		return api.Object{}, errRange
	}
	if at := p.find(oid); at >= 0 {
		x := p.hand[at]
		p.use(x)
		return x.o, ok
	}
	p.lies.steps++
	if slices.Contains(p.lies.failing, p.lies.steps-1) {
		return api.Object{}, errDisk
	}
	o, whole := p.lies.objects[p.places[oid]]
	if !whole {
		return api.Object{}, errRot
	}
	p.use(one{oid, o, false})
	return o, ok
}

func (p *plain) put(oid int, o api.Object, may bool) api.Errno {
	if !p.has(oid) {
		return errRange
	}
	if !may {
		return errArg
	}
	p.use(one{oid, o, true})
	return ok
}

func (p *plain) evict(pick int) (int, bool) {
	l := p.clean()
	if len(l) == 0 {
		return 0, false
	}
	oid := l[chosen(pick, len(l))]
	p.hand = slices.DeleteFunc(slices.Clone(p.hand), func(x one) bool { return x.oid == oid })
	return oid, true
}

func (p *plain) move(oid, sector int) api.Errno {
	if !p.has(oid) || !p.hasSector(sector) {
		return errRange
	}
	p.places[oid] = sector
	return ok
}

func (p *plain) settle(oid, sector int) api.Errno {
	if e := p.move(oid, sector); e != ok {
		return e
	}
	if at := p.find(oid); at >= 0 && p.hand[at].changed {
		p.use(one{oid, p.hand[at].o, false})
	}
	return ok
}

// both is a cache and a plain one that should stand alike.
type both struct {
	t *testing.T
	c *cache.Cache
	p *plain
}

func (b *both) stand() {
	b.t.Helper()
	stands(b.t, b.c, listed(b.p.listed(func(one) bool { return true })), listed(b.p.listed(func(x one) bool { return x.changed })))
	for oid, sector := range b.p.places {
		lies(b.t, b.c, oid, sector)
	}
	steps(b.t, b.p.lies.d, b.p.lies.steps)
}

func (b *both) get(oid int) {
	b.t.Helper()
	want, e := b.p.get(oid)
	if e != ok {
		getFails(b.t, b.c, oid, e)
		return
	}
	gets(b.t, b.c, oid, want)
}

func (b *both) put(oid int, o api.Object, may bool) {
	b.t.Helper()
	wants(b.t, "Put", b.c.Put(oid, o), b.p.put(oid, o, may))
}

func (b *both) evict(pick int) {
	b.t.Helper()
	if oid, is := b.p.evict(pick); is {
		evicts(b.t, b.c, pick, oid)
	} else {
		evictsNone(b.t, b.c, pick)
	}
}

func (b *both) copied(s *sheet) *both {
	return &both{b.t, b.c.Copy(s.d), &plain{b.p.room, slices.Clone(b.p.places), slices.Clone(b.p.hand), s}}
}

// step does a call that is drawn.
func (b *both) step(draw *lot) {
	n, size := len(b.p.places), b.p.lies.d.Size()
	oid, sector := draw.next(n), draw.next(size)
	if draw.next(15) == 0 {
		oid, sector = draw.next(n+2)-1, draw.next(size+2)-1
	}
	switch draw.next(16) {
	case 0, 1, 2, 3, 4, 5:
		b.get(oid)
	case 6, 7:
		b.put(oid, thing(n, draw.next(400)), true)
	case 8:
		bad := wrongOnes(n)
		b.put(oid, bad[draw.next(len(bad))], false)
	case 9:
		b.evict(draw.pick())
	case 10, 11:
		wants(b.t, "Settle", b.c.Settle(oid, sector), b.p.settle(oid, sector))
	case 12:
		wants(b.t, "Move", b.c.Move(oid, sector), b.p.move(oid, sector))
	case 13:
		b.p.lies.write(draw.next(size), thing(n, draw.next(400)), draw.next(5) > 0)
	case 14:
		b.p.lies.fail(draw.next(6), draw.next(6))
	case 15:
		b.p.lies.fail()
	}
}

func newBoth(t *testing.T, n, room int) *both {
	c, d := made(t, n, room)
	s := &sheet{d: d, objects: map[int]api.Object{}}
	for oid := range n {
		s.objects[place(n, oid)], s.objects[other(n, oid)] = there(n, oid), elsewhere(n, oid)
	}
	return &both{t, c, &plain{room: room, places: placesOf(n), lies: s}}
}

func TestTheWholeIsAsAPlainOne(t *testing.T) {
	for seed := range lot(120) {
		draw := seed
		n := 1 + draw.next(8)
		l := []*both{newBoth(t, n, 1+draw.next(n+1))}
		for range 200 {
			at := draw.next(len(l))
			if b := l[at]; draw.next(25) > 0 {
				b.step(&draw)
			} else if s := b.p.lies; len(l) < 4 {
				if draw.next(2) == 0 {
					s.fail()
					s = s.copied()
				}
				l = append(l, b.copied(s))
			}
			for _, b := range l {
				b.stand()
			}
			if t.Failed() {
				t.Fatalf("seed %d", seed)
			}
		}
	}
}

func TestTheGreatestIsAsAPlainOne(t *testing.T) {
	for seed := range lot(12) {
		draw := seed + 1000
		b := newBoth(t, maxObjects, []int{1, 7, 63, 64}[seed%4])
		for range 500 {
			b.step(&draw)
			b.stand()
			if t.Failed() {
				t.Fatalf("seed %d", seed)
			}
		}
	}
}
