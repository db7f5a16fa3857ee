package headers_test

import (
	"bytes"
	"encoding/binary"
	"hash/crc32"
	"math"
	"math/bits"
	"slices"
	"testing"

	"chatelaine/api"
	"chatelaine/disk"
	"chatelaine/headers"
)

// What the document says of headers stands here once more, in plain words and numbers of its own.

const (
	maxObjects  = 64
	maxSectors  = 4096
	sectorBytes = 512
	sectorBits  = 8 * sectorBytes
	summed      = 508
	errDisk     = api.Errno(120)
	errHead     = api.Errno(180)
)

type sector = [sectorBytes]byte

func sizeOf(n int) int { return 20 + 3*n }

// hasSize tells whether some plan is of that size.
func hasSize(sectors int) bool {
	for n := 1; n <= maxObjects; n++ {
		if sizeOf(n) == sectors {
			return true
		}
	}
	return false
}

// sealed tells a sector with its sum in its last four bytes.
func sealed(b sector) sector {
	binary.LittleEndian.PutUint32(b[summed:], crc32.ChecksumIEEE(b[:summed]))
	return b
}

// headerSector lays a header by the places of its bytes.
func headerSector(h api.Header) sector {
	var b sector
	copy(b[:], "CHHD")
	binary.LittleEndian.PutUint64(b[4:], uint64(h.Edition))
	binary.LittleEndian.PutUint16(b[12:], uint16(h.Area))
	binary.LittleEndian.PutUint16(b[14:], uint16(h.Objects))
	binary.LittleEndian.PutUint64(b[500:], uint64(h.Edition))
	return sealed(b)
}

// mayBe tells whether a header may be.
func mayBe(h api.Header) bool {
	return h.Edition >= 0 && (h.Area == 0 || h.Area == 1) && h.Objects >= 1 && h.Objects <= 64
}

// slot is what is told of one.
type slot struct {
	header api.Header
	has    bool
}

func full(h api.Header) slot { return slot{h, true} }

// slotOf tells what a disk of so many sectors has in a slot where these bytes lie: it takes the numbers where they stand, and lays them once more.
func slotOf(b sector, sectors int) slot {
	h := api.Header{
		Edition: int64(binary.LittleEndian.Uint64(b[4:])),
		Area:    int(binary.LittleEndian.Uint16(b[12:])),
		Objects: int(binary.LittleEndian.Uint16(b[14:])),
	}
	if !mayBe(h) || sizeOf(h.Objects) != sectors || headerSector(h) != b {
		return slot{}
	}
	return full(h)
}

// counts tells which of two slots counts, if one has a header.
func counts(a, b slot) (number int, ok bool) {
	switch {
	case a.has && b.has && b.header.Edition > a.header.Edition:
		return 1, true
	case a.has:
		return 0, true
	}
	return 1, b.has
}

// Headers to try

func editions() []int64 {
	return []int64{0, 1, 2, 3, 255, 256, 257, 65535, 65536, 1 << 31, 1<<32 - 1, 1 << 32, 1<<32 + 1, 0x0102030405060708, 1 << 62, math.MaxInt64 - 1, math.MaxInt64}
}

func badEditions() []int64 {
	return []int64{-1, -2, -256, -1 << 32, math.MinInt64, math.MinInt64 + 1}
}

func badAreas() []int {
	return []int{-1, 2, 3, -2, 255, 256, 257, 65535, 65536, 65537, 1 << 32, 1<<32 + 1, -1 << 32, math.MinInt, math.MinInt + 1, math.MaxInt}
}

func noPlans() []int {
	return []int{0, -1, -2, -6, 65, 66, 128, 256, 257, 65535, 65536, 65537, 1 << 32, 1<<32 + 1, -1 << 32, 1 << 62, math.MinInt, math.MinInt + 1, math.MaxInt, math.MaxInt - 1, math.MaxInt / 3, math.MaxInt/3 + 1}
}

func goodPlans() []int { return []int{1, 2, 3, 7, 31, 63, 64} }

func badSlots() []int {
	return []int{-1, 2, 3, -2, 22, 256, 257, 1 << 32, 1<<32 + 1, -1 << 32, math.MinInt, math.MaxInt}
}

// goodHeaders may all be, on a disk of the plan for n.
func goodHeaders(n int) []api.Header {
	var l []api.Header
	for _, edition := range editions() {
		l = append(l, api.Header{Edition: edition, Objects: n}, api.Header{Edition: edition, Area: 1, Objects: n})
	}
	return l
}

// badHeaders may not be, each for one thing alone, and the last ones for all.
func badHeaders(n int) []api.Header {
	var l []api.Header
	for _, edition := range badEditions() {
		l = append(l, api.Header{Edition: edition, Objects: n}, api.Header{Edition: edition, Area: 1, Objects: n})
	}
	for _, area := range badAreas() {
		l = append(l, api.Header{Edition: 5, Area: area, Objects: n})
	}
	for _, objects := range noPlans() {
		l = append(l, api.Header{Edition: 5, Objects: objects}, api.Header{Edition: 5, Area: 1, Objects: objects})
	}
	return append(l, api.Header{}, api.Header{Edition: -1, Area: 2, Objects: 65}, api.Header{Edition: -1, Area: -1, Objects: -1})
}

// Disks to try

// row tells numbers that look drawn by lot, the same ones each time.
func row(seed uint32) func(below int) int {
	return func(below int) int {
		seed = seed*1664525 + 1013904223
		return int(seed>>8) % below
	}
}

func newDisk(t *testing.T, sectors int) *disk.Disk {
	t.Helper()
	d, e := disk.New(sectors)
	if e != api.OK {
		t.Fatalf("New(%d): %v", sectors, e)
	}
	return d
}

// drawnDisk has in each of its sectors something that nobody laid there.
func drawnDisk(t *testing.T, sectors int) *disk.Disk {
	t.Helper()
	next := row(uint32(sectors))
	b := make([]byte, sectors*sectorBytes)
	for i := range b {
		b[i] = byte(next(256))
	}
	d, e := disk.Of(b)
	if e != api.OK {
		t.Fatalf("Of(%d sectors): %v", sectors, e)
	}
	return d
}

func put(t *testing.T, d *disk.Disk, n int, b sector) {
	t.Helper()
	if e := d.Write(n, b); e != api.OK {
		t.Fatalf("Write(%d): %v", n, e)
	}
}

func get(d *disk.Disk, n int) sector {
	return sector(d.Bytes()[n*sectorBytes : (n+1)*sectorBytes])
}

func slotsOf(d *disk.Disk) [2]sector {
	b := d.Bytes()
	return [2]sector{sector(b[:sectorBytes]), sector(b[sectorBytes : 2*sectorBytes])}
}

func flush(t *testing.T, d *disk.Disk) {
	t.Helper()
	if e := d.Flush(); e != api.OK {
		t.Fatalf("Flush: %v", e)
	}
}

// with is a disk on which these bytes last in the slots, and in all other sectors something else.
func with(t *testing.T, sectors int, first, second sector) *disk.Disk {
	t.Helper()
	d := drawnDisk(t, sectors)
	put(t, d, 0, first)
	put(t, d, 1, second)
	flush(t, d)
	return d
}

func crashed(t *testing.T, d *disk.Disk, c api.Crash) *disk.Disk {
	t.Helper()
	left, e := d.Crash(c)
	if e != api.OK {
		t.Fatalf("Crash(%v): %v", c, e)
	}
	return left
}

// What calls tell

// bothTells fails, if Both does not tell just that, by so many steps.
func bothTells(t *testing.T, d *disk.Disk, first, second slot, e api.Errno, steps int) {
	t.Helper()
	was := d.Steps()
	found, has, f := headers.Both(d)
	if found != [2]api.Header{first.header, second.header} || has != [2]bool{first.has, second.has} || f != e {
		t.Errorf("Both = %v, %v, %v, want %v, %v, %v", found, has, f, first, second, e)
	}
	if made := d.Steps() - was; made != steps {
		t.Errorf("Both, %v: %d steps, want %d", f, made, steps)
	}
}

func readTells(t *testing.T, d *disk.Disk, want api.Header, number int, e api.Errno, steps int) {
	t.Helper()
	was := d.Steps()
	h, n, f := headers.Read(d)
	if h != want || n != number || f != e {
		t.Errorf("Read = %v, %d, %v, want %v, %d, %v", h, n, f, want, number, e)
	}
	if made := d.Steps() - was; made != steps {
		t.Errorf("Read, %v: %d steps, want %d", f, made, steps)
	}
}

// refused fails, if Both and Read do not tell just that error.
func refused(t *testing.T, d *disk.Disk, e api.Errno, steps int) {
	t.Helper()
	bothTells(t, d, slot{}, slot{}, e, steps)
	readTells(t, d, api.Header{}, 0, e, steps)
}

// tell fails, if Both and Read do not tell just these slots.
func tell(t *testing.T, d *disk.Disk, first, second slot) {
	t.Helper()
	bothTells(t, d, first, second, api.OK, 2)
	number, ok := counts(first, second)
	if !ok {
		readTells(t, d, api.Header{}, 0, errHead, 2)
		return
	}
	readTells(t, d, []slot{first, second}[number].header, number, api.OK, 2)
}

// tellAt is tell, with one slot's number.
func tellAt(t *testing.T, d *disk.Disk, number int, one, other slot) {
	t.Helper()
	if number == 1 {
		one, other = other, one
	}
	tell(t, d, one, other)
}

func writeTells(t *testing.T, d *disk.Disk, number int, h api.Header, e api.Errno, steps int) {
	t.Helper()
	was := d.Steps()
	if got := headers.Write(d, number, h); got != e {
		t.Errorf("Write(%d, %v) = %v, want %v", number, h, got, e)
	}
	if made := d.Steps() - was; made != steps {
		t.Errorf("Write(%d, %v): %d steps, want %d", number, h, made, steps)
	}
}

// The chapter's examples

func TestExamples(t *testing.T) {
	d := newDisk(t, 23)
	readTells(t, d, api.Header{}, 0, errHead, 2)
	four, five := api.Header{Edition: 4, Area: 1, Objects: 1}, api.Header{Edition: 5, Area: 0, Objects: 1}
	writeTells(t, d, 0, four, api.OK, 1)
	writeTells(t, d, 1, five, api.OK, 1)
	readTells(t, d, five, 1, api.OK, 2)
	writeTells(t, d, 0, api.Header{Edition: 6, Objects: 2}, api.ErrArg, 0)
	writeTells(t, d, 0, api.Header{Edition: -1, Objects: 1}, api.ErrArg, 0)
	writeTells(t, d, 2, api.Header{Edition: 6, Objects: 1}, api.ErrArg, 0)
	tell(t, d, full(four), full(five))
	if e := d.Spoil(1, 0, 1); e != api.OK {
		t.Error(e)
	}
	readTells(t, d, four, 0, api.OK, 2)
	tell(t, d, full(four), slot{})
}

// TestByHand holds a header's bytes against those that are written out here.
func TestByHand(t *testing.T) {
	d := newDisk(t, 29)
	writeTells(t, d, 1, api.Header{Edition: 0x0102030405060708, Area: 1, Objects: 3}, api.OK, 1)
	want := []byte("CHHD\x08\x07\x06\x05\x04\x03\x02\x01\x01\x00\x03\x00")
	want = append(want, make([]byte, 484)...)
	want = append(want, "\x08\x07\x06\x05\x04\x03\x02\x01"...)
	want = binary.LittleEndian.AppendUint32(want, crc32.ChecksumIEEE(want))
	if b := get(d, 1); !bytes.Equal(b[:], want) {
		t.Errorf("the header is % x, want % x", b, want)
	}
	if b := get(d, 0); b != (sector{}) {
		t.Errorf("the other slot is % x", b)
	}
}

// P8.1

func checkTells(t *testing.T, h api.Header, want api.Errno) {
	t.Helper()
	if e := headers.Check(h); e != want {
		t.Errorf("Check(%v) = %v, want %v", h, e, want)
	}
}

func TestCheck(t *testing.T) {
	for n := 1; n <= maxObjects; n++ {
		for _, h := range goodHeaders(n) {
			checkTells(t, h, api.OK)
		}
		for _, h := range badHeaders(n) {
			checkTells(t, h, api.ErrArg)
		}
	}
}

// Each thing is tried with each other, whether it may be or not.
func TestCheckOfAll(t *testing.T) {
	objects := noPlans()
	for n := -2; n <= 70; n++ {
		objects = append(objects, n)
	}
	for _, edition := range append(editions(), badEditions()...) {
		for _, area := range append(badAreas(), 0, 1) {
			for _, n := range objects {
				h := api.Header{Edition: edition, Area: area, Objects: n}
				want := api.ErrArg
				if mayBe(h) {
					want = api.OK
				}
				checkTells(t, h, want)
			}
		}
	}
}

func TestWrite(t *testing.T) {
	for n := 1; n <= maxObjects; n++ {
		d := drawnDisk(t, sizeOf(n))
		was := d.Bytes()
		var waits []int
		for i, h := range goodHeaders(n) {
			number := i / 2 % 2
			want := d.Bytes()
			b := headerSector(h)
			copy(want[number*sectorBytes:], b[:])
			writeTells(t, d, number, h, api.OK, 1)
			waits = append(waits, number)
			if !bytes.Equal(d.Bytes(), want) {
				t.Errorf("Write(%d, %v): the disk is not as it should be", number, h)
			}
		}
		if !slices.Equal(d.Waits(), waits) {
			t.Errorf("of %d objects: what waits is %v, want %v", n, d.Waits(), waits)
		}
		if !bytes.Equal(crashed(t, d, api.Crash{Torn: -1}).Bytes(), was) {
			t.Errorf("of %d objects: something lasts already", n)
		}
	}
}

// A disk is of just the size of the header's plan.
func TestWriteBySize(t *testing.T) {
	sizes := []int{500, 511, 512, maxSectors - 1, maxSectors}
	for size := 1; size <= sizeOf(maxObjects)+5; size++ {
		sizes = append(sizes, size)
	}
	for _, size := range sizes {
		for n := 1; n <= maxObjects; n++ {
			d, e, steps := newDisk(t, size), api.ErrArg, 0
			if sizeOf(n) == size {
				e, steps = api.OK, 1
			}
			writeTells(t, d, n%2, api.Header{Edition: 6, Area: n / 2 % 2, Objects: n}, e, steps)
			if len(d.Waits()) != steps {
				t.Errorf("a disk of %d sectors, %d objects: what waits is %v", size, n, d.Waits())
			}
		}
	}
}

// asked is what refuses a Write ahead of its step.
func asked(d *disk.Disk, number int, h api.Header) api.Errno {
	switch {
	case d == nil || d.Size() == 0:
		return api.ErrNil
	case number != 0 && number != 1, !mayBe(h), d.Size() != sizeOf(h.Objects):
		return api.ErrArg
	}
	return api.OK
}

// What is refused goes ahead of a step that fails, makes none, and changes nothing.
func TestWriteRefuses(t *testing.T) {
	for _, d := range []*disk.Disk{nil, {}, newDisk(t, 1), newDisk(t, 2), newDisk(t, 22), drawnDisk(t, 23), newDisk(t, 24), newDisk(t, 26), drawnDisk(t, 212), newDisk(t, maxSectors)} {
		d.Fail(0)
		was := d.Copy()
		for _, n := range []int{1, 2, 64} {
			for _, h := range append(goodHeaders(n), badHeaders(n)...) {
				for _, number := range append(badSlots(), 0, 1) {
					if e := asked(d, number, h); e != api.OK {
						writeTells(t, d, number, h, e, 0)
					}
				}
			}
		}
		if !disk.Same(d, was) {
			t.Errorf("a disk of %d sectors is changed by what was refused", d.Size())
		}
		if hasSize(d.Size()) { // the step that fails is still to come
			h := api.Header{Edition: 5, Area: 1, Objects: (d.Size() - 20) / 3}
			writeTells(t, d, 1, h, errDisk, 1)
			writeTells(t, d, 1, h, api.OK, 1)
		}
	}
}

// A Write whose step fails is one step, and leaves the disk as it was.
func TestWriteFails(t *testing.T) {
	for _, n := range goodPlans() {
		for number := range 2 {
			d := drawnDisk(t, sizeOf(n))
			first, second := api.Header{Edition: 1, Objects: n}, api.Header{Edition: 2, Area: 1, Objects: n}
			writeTells(t, d, number, first, api.OK, 1)
			was := d.Copy()
			d.Fail(0, 2)
			writeTells(t, d, number, second, errDisk, 1)
			writeTells(t, d, 1-number, second, api.OK, 1)
			put(t, was, 1-number, headerSector(second))
			writeTells(t, d, 1-number, first, errDisk, 1)
			if !disk.Same(d, was) {
				t.Errorf("of %d objects, slot %d: the disk is not as it should be behind a Write that failed", n, number)
			}
			d.Fail(1)
			writeTells(t, d, number, second, api.OK, 1) // no second step, which would fail
			if e := d.Flush(); e != errDisk {
				t.Errorf("of %d objects: the step behind a Write is %v", n, e)
			}
			tell(t, d, full(second), full(second))
		}
	}
}

// P8.2

// Which of two counts: the greater Edition, of the same ones the first, one alone, or none.
func TestWhichCounts(t *testing.T) {
	for _, n := range goodPlans() {
		slots := []slot{{}}
		for _, h := range goodHeaders(n) {
			slots = append(slots, full(h))
		}
		for i, first := range slots {
			for j, second := range slots {
				d := newDisk(t, sizeOf(n))
				if first.has {
					writeTells(t, d, 0, first.header, api.OK, 1)
				}
				if second.has {
					writeTells(t, d, 1, second.header, api.OK, 1)
				}
				if (i+j)%2 == 0 {
					flush(t, d)
				}
				tell(t, d, first, second)
			}
		}
	}
}

func TestWhichCountsByHand(t *testing.T) {
	old, young := api.Header{Edition: 255, Area: 1, Objects: 2}, api.Header{Edition: 256, Objects: 2}
	same := api.Header{Edition: 256, Area: 1, Objects: 2}
	for _, x := range []struct {
		first, second sector
		want          api.Header
		number        int
		e             api.Errno
	}{
		{headerSector(young), headerSector(old), young, 0, api.OK},
		{headerSector(old), headerSector(young), young, 1, api.OK},
		{headerSector(young), headerSector(same), young, 0, api.OK},
		{headerSector(same), headerSector(young), same, 0, api.OK},
		{headerSector(same), headerSector(same), same, 0, api.OK},
		{headerSector(old), sector{}, old, 0, api.OK},
		{sector{}, headerSector(old), old, 1, api.OK},
		{sector{}, sector{}, api.Header{}, 0, errHead},
		{headerSector(api.Header{Objects: 2}), sector{}, api.Header{Objects: 2}, 0, api.OK},
		{sector{}, headerSector(api.Header{Objects: 2}), api.Header{Objects: 2}, 1, api.OK},
	} {
		readTells(t, with(t, 26, x.first, x.second), x.want, x.number, x.e, 2)
	}
}

// Each step fails in turn, whatever lies in the slots; behind one that fails there is none.
func TestBothFails(t *testing.T) {
	for _, n := range goodPlans() {
		one, two := api.Header{Edition: 1, Objects: n}, api.Header{Edition: 2, Area: 1, Objects: n}
		for _, d := range []*disk.Disk{
			newDisk(t, sizeOf(n)), drawnDisk(t, sizeOf(n)), with(t, sizeOf(n), headerSector(one), headerSector(two)),
			with(t, sizeOf(n), headerSector(two), sector{}), with(t, sizeOf(n), sector{}, headerSector(two)),
		} {
			first, second := slotOf(get(d, 0), sizeOf(n)), slotOf(get(d, 1), sizeOf(n))
			was := d.Copy()
			for at := range 2 {
				d.Fail(at)
				bothTells(t, d, slot{}, slot{}, errDisk, at+1)
				d.Fail(at)
				readTells(t, d, api.Header{}, 0, errDisk, at+1)
				d.Fail(0, 1)
				refused(t, d, errDisk, 1)
				d.Fail()
				tell(t, d, first, second)
			}
			d.Fail(4)
			tell(t, d, first, second)
			if d.Flush() != errDisk {
				t.Errorf("of %d objects: the step behind four Reads is not the fifth", n)
			}
			if !disk.Same(d, was) {
				t.Errorf("of %d objects: the disk is changed by what reads it", n)
			}
		}
	}
}

func TestNoDisk(t *testing.T) {
	for _, d := range []*disk.Disk{nil, {}} {
		refused(t, d, api.ErrNil, 0)
		for _, h := range append(goodHeaders(1), badHeaders(1)...) {
			for _, number := range append(badSlots(), 0, 1) {
				writeTells(t, d, number, h, api.ErrNil, 0)
			}
		}
	}
}

// A disk of one sector is refused without a step, a header on it or not.
func TestOneSector(t *testing.T) {
	for _, b := range []sector{{}, headerSector(api.Header{Edition: 1, Objects: 1}), headerSector(api.Header{})} {
		d := newDisk(t, 1)
		put(t, d, 0, b)
		refused(t, d, errHead, 0)
		d.Fail(0)
		refused(t, d, errHead, 0)
		if d.Flush() != errDisk {
			t.Error("a disk of one sector: the step that fails is gone")
		}
	}
}

// Of a disk whose size no plan has both slots are read, and none has a header.
func TestSizesOfNoPlan(t *testing.T) {
	sizes := []int{511, maxSectors - 1, maxSectors}
	for size := 2; size <= sizeOf(maxObjects)+5; size++ {
		sizes = append(sizes, size)
	}
	for _, size := range sizes {
		if hasSize(size) {
			continue
		}
		for n := -1; n <= maxObjects+2; n++ {
			b := headerSector(api.Header{Edition: 7, Objects: n})
			d := newDisk(t, size)
			put(t, d, 0, b)
			put(t, d, 1, b)
			tell(t, d, slot{}, slot{})
			for at := range 2 {
				d.Fail(at)
				bothTells(t, d, slot{}, slot{}, errDisk, at+1)
				d.Fail(at)
				readTells(t, d, api.Header{}, 0, errDisk, at+1)
			}
		}
	}
}

// A slot has a header for a plan of the disk's size alone, also where the other one has a greater Edition.
func TestPlansOfAnotherSize(t *testing.T) {
	for _, n := range goodPlans() {
		good := api.Header{Edition: 3, Area: 1, Objects: n}
		for other := 1; other <= maxObjects; other++ {
			h := api.Header{Edition: 9, Objects: other}
			second := slot{}
			if other == n {
				second = full(h)
			}
			tell(t, with(t, sizeOf(n), headerSector(good), headerSector(h)), full(good), second)
			tell(t, with(t, sizeOf(n), headerSector(h), headerSector(good)), second, full(good))
			tell(t, with(t, sizeOf(n), headerSector(h), headerSector(h)), second, second)
			tell(t, with(t, sizeOf(n), sector{}, headerSector(h)), slot{}, second)
		}
	}
}

// What is read is what was written, whatever the disk's size.
func TestReadBehindWrite(t *testing.T) {
	for n := 1; n <= maxObjects; n++ {
		d := drawnDisk(t, sizeOf(n))
		var now [2]slot
		tell(t, d, now[0], now[1])
		for i, h := range goodHeaders(n) {
			number := i % 3 % 2
			writeTells(t, d, number, h, api.OK, 1)
			now[number] = full(h)
			tell(t, d, now[0], now[1])
			if i%4 == 0 {
				flush(t, d)
				tell(t, d, now[0], now[1])
			}
		}
	}
}

// Sectors that are sealed, and say wrong

// from is the header that is forged, on a disk of 29 sectors; beside it the other slot has one that is older.
func from() api.Header { return api.Header{Edition: 7, Area: 1, Objects: 3} }

func beside() api.Header { return api.Header{Edition: 5, Objects: 3} }

// lies puts bytes into each slot, and fails, if that slot is not told to be just so.
func lies(t *testing.T, what string, b sector, want slot) {
	t.Helper()
	failed := t.Failed()
	for number := range 2 {
		d := drawnDisk(t, 29)
		put(t, d, number, b)
		put(t, d, 1-number, headerSector(beside()))
		tellAt(t, d, number, want, full(beside()))
		put(t, d, 1-number, sector{})
		tellAt(t, d, number, want, slot{})
	}
	if t.Failed() && !failed {
		t.Errorf("with %s", what)
	}
}

// none fails, if the forged header, changed and sealed, is taken as one.
func none(t *testing.T, what string, change func(b []byte)) {
	t.Helper()
	b := headerSector(from())
	change(b[:])
	lies(t, what, sealed(b), slot{})
}

func put16(b []byte, n int) { binary.LittleEndian.PutUint16(b, uint16(n)) }

func put64(b []byte, n uint64) { binary.LittleEndian.PutUint64(b, n) }

func TestUnchanged(t *testing.T) {
	lies(t, "the header as it is", headerSector(from()), full(from()))
}

func TestOtherMarks(t *testing.T) {
	for at := range 4 {
		for bit := range 8 {
			none(t, "another mark", func(b []byte) { b[at] ^= 1 << bit })
		}
	}
	for _, mark := range []string{"CHLG", "chhd", "DHHC", "CHHC", "\x00\x00\x00\x00", "CHH\x00", "\x00HHD"} {
		none(t, mark, func(b []byte) { copy(b, mark) })
	}
}

// Editions past 2^63 - 1, in both places and in one.
func TestTooGreatEditions(t *testing.T) {
	for _, edition := range []uint64{1 << 63, 1<<63 + 1, 1<<63 + 7, 1<<64 - 1, 1<<64 - 8, 0xff << 56} {
		for _, other := range []uint64{edition, edition - 1<<63, 0, 7, 1<<63 - 1} {
			none(t, "an Edition that is too great", func(b []byte) {
				put64(b[4:], edition)
				put64(b[500:], other)
			})
			none(t, "an Edition behind that is too great", func(b []byte) {
				put64(b[4:], other)
				put64(b[500:], edition)
			})
		}
	}
}

// The Edition behind is not that ahead.
func TestOtherEditions(t *testing.T) {
	for _, ahead := range editions() {
		for _, behind := range editions() {
			b := headerSector(from())
			put64(b[4:], uint64(ahead))
			put64(b[500:], uint64(behind))
			want := slot{}
			if ahead == behind {
				want = full(api.Header{Edition: ahead, Area: 1, Objects: 3})
			}
			lies(t, "two Editions", sealed(b), want)
		}
	}
	for bit := range 64 {
		none(t, "another Edition ahead", func(b []byte) { b[4+bit/8] ^= 1 << (bit % 8) })
		none(t, "another Edition behind", func(b []byte) { b[500+bit/8] ^= 1 << (bit % 8) })
	}
	none(t, "an Edition behind the other way round", func(b []byte) { slices.Reverse(b[500:508]) })
}

func TestOtherAreas(t *testing.T) {
	for area := range 1 << 16 {
		if area > 600 && area&(area-1) != 0 && area != 1<<16-1 && area != 1<<15+1 {
			continue
		}
		b := headerSector(from())
		put16(b[12:], area)
		want := slot{}
		if area < 2 {
			want = full(api.Header{Edition: 7, Area: area, Objects: 3})
		}
		lies(t, "another Area", sealed(b), want)
	}
}

func TestOtherObjects(t *testing.T) {
	for objects := range 1 << 16 {
		if objects > 300 && objects%256 != 3 && objects != 1<<16-1 {
			continue
		}
		b := headerSector(from())
		put16(b[14:], objects)
		want := slot{}
		if objects == 3 {
			want = full(from())
		}
		lies(t, "other Objects", sealed(b), want)
	}
}

// Objects that no plan has, on the smallest and the greatest disk of a plan, and on those that would be of a plan for 0 or 65.
func TestObjectsOfNoPlan(t *testing.T) {
	for _, size := range []int{20, 23, 212, 215} {
		d := newDisk(t, size)
		for objects := range 1 << 16 {
			if objects > 300 && objects%64 > 1 {
				continue
			}
			b := headerSector(api.Header{Edition: 1, Objects: objects})
			put(t, d, 1, b)
			bothTells(t, d, slot{}, slotOf(b, size), api.OK, 2)
			flush(t, d)
		}
	}
}

func TestBetweenTheEditions(t *testing.T) {
	for at := 16; at < 500; at++ {
		none(t, "something other than noughts", func(b []byte) { b[at] = byte(1 << (at % 8)) })
	}
	none(t, "ones", func(b []byte) { copy(b[16:500], bytes.Repeat([]byte{255}, sectorBytes)) })
	none(t, "a header behind the header", func(b []byte) { copy(b[16:32], b[:16]) })
}

func TestNoSeal(t *testing.T) {
	for at := summed; at < sectorBytes; at++ {
		for bit := range 8 {
			b := headerSector(from())
			b[at] ^= 1 << bit
			lies(t, "another seal", b, slot{})
		}
	}
	b := headerSector(from())
	slices.Reverse(b[summed:])
	lies(t, "a seal the other way round", b, slot{})
	b = headerSector(from())
	copy(b[summed:], "\x00\x00\x00\x00")
	lies(t, "no seal", b, slot{})
	lies(t, "noughts", sector{}, slot{})
	lies(t, "sealed noughts", sealed(sector{}), slot{})
	lies(t, "ones", sector(bytes.Repeat([]byte{255}, sectorBytes)), slot{})
}

// Sectors drawn by lot, near to a header: what they are told to be is what their bytes are.
func TestDrawnSectors(t *testing.T) {
	next := row(17)
	places := []int{0, 3, 4, 5, 11, 12, 13, 14, 15, 16, 499, 500, 501, 507}
	d := newDisk(t, 29)
	found := 0
	for range 20000 {
		b := headerSector(api.Header{Edition: int64(next(3)), Area: next(3), Objects: 2 + next(3)})
		for range next(3) {
			b[places[next(len(places))]] = byte(next(256) >> next(8))
		}
		if next(9) > 0 {
			b = sealed(b)
		}
		put(t, d, 0, b)
		want := slotOf(b, 29)
		if want.has {
			found++
		}
		tell(t, d, want, slot{})
		flush(t, d)
	}
	if found < 100 || found > 10000 {
		t.Errorf("%d of those that were drawn are headers", found)
	}
}

// P8.3

// crashesOf keep one write, or not, or tear it anywhere.
func crashesOf() []api.Crash {
	l := []api.Crash{{Torn: -1}, {Torn: 1}, {Torn: 5, Bytes: 512}, {Keep: []bool{false}, Torn: -1}, {Keep: []bool{true}, Torn: -1}, {Keep: []bool{true, true}, Torn: 9}}
	for count := range sectorBytes + 1 {
		l = append(l, api.Crash{Torn: 0, Bytes: count}, api.Crash{Keep: []bool{true}, Torn: 0, Bytes: count})
	}
	return l
}

// oneOf tells which header a slot has behind a crash, where these bytes are whole ones that were written there; of others it has none.
func oneOf(b sector, sectors int, whole ...sector) slot {
	if slices.Contains(whole, b) {
		return slotOf(b, sectors)
	}
	return slot{}
}

// writesOver writes a header over what lasts in a slot, and goes through all crashes.
func writesOver(t *testing.T, n, number int, old sector, young api.Header, other sector) {
	t.Helper()
	d := drawnDisk(t, sizeOf(n))
	put(t, d, number, old)
	put(t, d, 1-number, other)
	flush(t, d)
	failed := t.Failed()
	writeTells(t, d, number, young, api.OK, 1)
	for _, c := range crashesOf() {
		left := crashed(t, d, c)
		both := slotsOf(left)
		tellAt(t, left, number, oneOf(both[number], sizeOf(n), headerSector(young), old), slotOf(other, sizeOf(n)))
		if both[1-number] != other {
			t.Errorf("crash %v: the slot %d is changed by a Write of the other one", c, 1-number)
		}
		if t.Failed() && !failed {
			t.Fatalf("%v over % x.., crash %v", young, old[:16], c)
		}
	}
	tellAt(t, crashed(t, d, api.Crash{Torn: -1}), number, slotOf(old, sizeOf(n)), slotOf(other, sizeOf(n)))
	tellAt(t, crashed(t, d, api.Crash{Keep: []bool{true}, Torn: -1}), number, full(young), slotOf(other, sizeOf(n)))
	flush(t, d)
	tellAt(t, crashed(t, d, api.Crash{Torn: 0}), number, full(young), slotOf(other, sizeOf(n)))
}

func TestCrashOverNoughts(t *testing.T) {
	other := headerSector(api.Header{Edition: 4, Area: 1, Objects: 3})
	for i, edition := range editions() {
		writesOver(t, 3, i%2, sector{}, api.Header{Edition: edition, Area: i % 3 % 2, Objects: 3}, other)
		writesOver(t, 3, i%2, sector{}, api.Header{Edition: edition, Area: i % 3 % 2, Objects: 3}, sector{})
	}
	writesOver(t, 1, 0, sector{}, api.Header{Edition: 1, Area: 1, Objects: 1}, sector{})
	writesOver(t, 64, 1, sector{}, api.Header{Edition: 1, Objects: 64}, sector{})
}

func TestCrashOverAnotherEdition(t *testing.T) {
	other := headerSector(api.Header{Edition: 400, Area: 1, Objects: 3})
	for i, was := range editions() {
		for j, edition := range editions() {
			if was != edition && (i+j)%5 < 2 {
				old := headerSector(api.Header{Edition: was, Area: i % 2, Objects: 3})
				writesOver(t, 3, (i+j)%2, old, api.Header{Edition: edition, Area: j % 2, Objects: 3}, other)
			}
		}
	}
}

// Several writes wait, in both slots, each of another Edition: behind a crash each slot has one of them, or what it had, or none.
func TestCrashOfManyWrites(t *testing.T) {
	next := row(8)
	for range 300 {
		var lists [2][]sector
		d := drawnDisk(t, 23)
		for number := range 2 {
			b := sector{}
			if next(2) == 0 {
				b = headerSector(api.Header{Edition: int64(100 + number), Area: next(2), Objects: 1})
			}
			put(t, d, number, b)
			lists[number] = append(lists[number], b)
		}
		flush(t, d)
		for edition := range 1 + next(6) {
			number, h := next(2), api.Header{Edition: int64(edition), Area: next(2), Objects: 1}
			writeTells(t, d, number, h, api.OK, 1)
			lists[number] = append(lists[number], headerSector(h))
		}
		for range 30 {
			keep := make([]bool, next(8))
			for i := range keep {
				keep[i] = next(2) == 1
			}
			left := crashed(t, d, api.Crash{Keep: keep, Torn: next(9) - 1, Bytes: next(513)})
			both := slotsOf(left)
			tell(t, left, oneOf(both[0], 23, lists[0]...), oneOf(both[1], 23, lists[1]...))
		}
	}
}

// A Write that is cut off never takes away the header of the other slot: the older one counts till the new one is there.
func TestOneOfTwoIsThere(t *testing.T) {
	d := newDisk(t, 23)
	writeTells(t, d, 0, api.Header{Edition: 1, Objects: 1}, api.OK, 1)
	flush(t, d)
	for edition := int64(2); edition < 40; edition++ {
		number := int(edition+1) % 2
		h := api.Header{Edition: edition, Area: number, Objects: 1}
		old := api.Header{Edition: edition - 1, Area: 1 - number, Objects: 1}
		if edition == 2 {
			old.Area = 0
		}
		writeTells(t, d, number, h, api.OK, 1)
		for _, c := range crashesOf() {
			left := crashed(t, d, c)
			if get(left, number) == headerSector(h) {
				readTells(t, left, h, number, api.OK, 2)
			} else {
				readTells(t, left, old, 1-number, api.OK, 2)
			}
		}
		flush(t, d)
	}
}

// turn turns the bits of a pattern from a bit of a sector on, each byte's lowest bit ahead, or its highest; those past its end it leaves.
func turn(d *disk.Disk, n, from int, pattern uint32, highest bool) {
	for i := 0; i < 40; i += 8 {
		b := byte(uint64(pattern) << (from % 8) >> i)
		if highest {
			b = bits.Reverse8(b)
		}
		if at := from/8 + i/8; at < sectorBytes && b != 0 {
			d.Spoil(n, at, b)
		}
	}
}

func patterns() []uint32 {
	return []uint32{1, 3, 0xffffffff, 0x80000001, 0xedb88321, 0xff, 0xc3a5_9669, 0x00010001}
}

func TestTurnedBits(t *testing.T) {
	other := api.Header{Edition: 6, Objects: 3}
	for i, h := range []api.Header{{Objects: 3}, {Edition: 7, Area: 1, Objects: 3}, {Edition: math.MaxInt64, Objects: 3}} {
		for number := range 2 {
			first, second := headerSector(h), headerSector(other)
			if number == 1 {
				first, second = second, first
			}
			d := with(t, 29, first, second)
			if i == 1 { // and in what waits, too
				writeTells(t, d, number, h, api.OK, 1)
			}
			for _, highest := range []bool{false, true} {
				for k, pattern := range patterns() {
					for from := range sectorBits {
						if k > 2 && from%5 != k%5 {
							continue
						}
						turn(d, number, from, pattern, highest)
						tellAt(t, d, number, slot{}, full(other))
						turn(d, number, from, pattern, highest)
					}
				}
			}
			tellAt(t, d, number, full(h), full(other))
		}
	}
}

// Each number of bits in a row, all turned and some.
func TestTurnedBitsOfEachLength(t *testing.T) {
	next := row(9)
	h := api.Header{Edition: 0x7fff_0000_ffff_0001, Area: 1, Objects: 64}
	d := with(t, 212, headerSector(h), sector{})
	for length := 1; length <= 32; length++ {
		for from := 0; from+length <= sectorBits; from += 1 + next(40) {
			all := uint32(1<<length - 1)
			some := all&uint32(next(1<<24)<<8|next(256)) | 1
			for _, pattern := range []uint32{all, some} {
				for _, highest := range []bool{false, true} {
					turn(d, 0, from, pattern, highest)
					tell(t, d, slot{}, slot{})
					turn(d, 0, from, pattern, highest)
				}
			}
		}
	}
	tell(t, d, full(h), slot{})
}

// What lies elsewhere on the disk is all the same.
func TestTurnedBitsElsewhere(t *testing.T) {
	one, two := api.Header{Edition: 1, Objects: 3}, api.Header{Edition: 2, Area: 1, Objects: 3}
	d := with(t, 29, headerSector(one), headerSector(two))
	for n := 2; n < 29; n++ {
		d.Spoil(n, n, 255)
		tell(t, d, full(one), full(two))
		put(t, d, n, headerSector(api.Header{Edition: 9, Objects: 3}))
		tell(t, d, full(one), full(two))
	}
}

// What is handed in, and what is told

func TestReadChangesNothing(t *testing.T) {
	d := drawnDisk(t, 29)
	for _, number := range []int{0, 1, 0} {
		writeTells(t, d, number, from(), api.OK, 1)
		was := d.Copy()
		for at := range 3 {
			d.Fail(at)
			headers.Both(d)
			d.Fail(at)
			headers.Read(d)
		}
		d.Fail()
		if !disk.Same(d, was) {
			t.Error("the disk is changed by what reads it")
		}
		flush(t, d)
	}
}

// What was told stays as it was, whatever is done with the disk; what is done with one disk is not to be seen on another.
func TestNothingIsKept(t *testing.T) {
	d, other := newDisk(t, 29), newDisk(t, 29)
	writeTells(t, d, 0, from(), api.OK, 1)
	found, has, _ := headers.Both(d)
	tell(t, other, slot{}, slot{})
	writeTells(t, other, 1, beside(), api.OK, 1)
	tell(t, d, full(from()), slot{})
	writeTells(t, d, 0, beside(), api.OK, 1)
	if found != [2]api.Header{from()} || has != [2]bool{true} {
		t.Errorf("what was told is now %v, %v", found, has)
	}
	found[0], has[0] = api.Header{}, false
	tell(t, d, full(beside()), slot{})
	tell(t, other, slot{}, full(beside()))
}

// Whatever is handed in has its answer: wrong things by themselves, and together.
func TestWhateverIsHandedIn(t *testing.T) {
	for _, size := range []int{1, 2, 3, 19, 20, 22, 23, 24, 26, 211, 212, 213, maxSectors} {
		d := drawnDisk(t, size)
		was := d.Copy()
		for _, edition := range append(badEditions(), 0, math.MaxInt64) {
			for _, area := range append(badAreas(), 0, 1) {
				for _, objects := range append(noPlans(), 1, 2, 64) {
					h := api.Header{Edition: edition, Area: area, Objects: objects}
					for _, number := range append(badSlots(), 0, 1) {
						if e := asked(d, number, h); e != api.OK && headers.Write(d, number, h) != e {
							t.Errorf("a disk of %d sectors: Write(%d, %v) is not %v", size, number, h, e)
						}
					}
				}
			}
		}
		if d.Steps() != 0 || !disk.Same(d, was) {
			t.Errorf("a disk of %d sectors: what was refused makes steps", size)
		}
		if size == 1 {
			refused(t, d, errHead, 0)
		} else {
			tell(t, d, slot{}, slot{})
		}
	}
}
