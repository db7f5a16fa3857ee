package logs_test

import (
	"bytes"
	"encoding/binary"
	"hash/crc32"
	"math"
	"slices"
	"testing"

	"chatelaine/api"
	"chatelaine/disk"
	"chatelaine/logs"
)

// What the document says of frames stands here once more, in plain words and numbers of its own.

const (
	maxObjects  = 64
	maxState    = 4096
	sectorBytes = 512
	sectorBits  = 8 * sectorBytes
	summed      = 508
	rowsFrom    = 20 // of a head's bytes
	errDisk     = api.Errno(120)
	errLog      = api.Errno(170)
)

type sector = [sectorBytes]byte

func plan(n int) api.Plan { return api.Plan{Objects: n} }

func sizeOf(n int) int { return 20 + 3*n }

func headAt(n, area int) int      { return 2 + area*(9+n) }
func stateAt(n, area, at int) int { return headAt(n, area) + 1 + at }
func frameAt(n, area, at int) int { return headAt(n, area) + 9 + at }

// sealed tells a sector with its sum in its last four bytes.
func sealed(b sector) sector {
	binary.LittleEndian.PutUint32(b[summed:], crc32.ChecksumIEEE(b[:summed]))
	return b
}

func layKey(b []byte, k api.Key) {
	b[0], b[1] = byte(k.Kind), byte(k.Rights)
	binary.LittleEndian.PutUint16(b[2:], uint16(k.Oid))
	binary.LittleEndian.PutUint32(b[4:], uint32(k.Count))
	binary.LittleEndian.PutUint32(b[8:], uint32(k.Call))
	binary.LittleEndian.PutUint64(b[12:], uint64(k.Value))
}

// objectSector lays an object by the places of its bytes.
func objectSector(o api.Object) sector {
	var b sector
	b[0] = byte(o.Kind)
	binary.LittleEndian.PutUint32(b[4:], uint32(o.Count))
	binary.LittleEndian.PutUint32(b[8:], uint32(o.Calls))
	for i, k := range o.Slots {
		layKey(b[12+20*i:], k)
	}
	copy(b[332:], o.Bytes[:])
	return sealed(b)
}

// headSector lays a frame's head by the places of its bytes.
func headSector(f api.Frame) sector {
	var b sector
	copy(b[:], "CHLG")
	binary.LittleEndian.PutUint64(b[4:], uint64(f.Edition))
	binary.LittleEndian.PutUint16(b[12:], uint16(len(f.Oids)))
	binary.LittleEndian.PutUint16(b[14:], uint16(len(f.State)))
	binary.LittleEndian.PutUint32(b[16:], crc32.ChecksumIEEE(f.State))
	for i, oid := range f.Oids {
		o := objectSector(f.Objects[i])
		binary.LittleEndian.PutUint16(b[rowsFrom+6*i:], uint16(oid))
		binary.LittleEndian.PutUint32(b[rowsFrom+6*i+2:], crc32.ChecksumIEEE(o[:summed]))
	}
	return sealed(b)
}

// lain is what lies in a sector.
type lain struct {
	sector int
	bytes  sector
}

// laid are a frame's sectors, in the order in which they are written.
func laid(n, area int, f api.Frame) []lain {
	var l []lain
	for i, o := range f.Objects {
		l = append(l, lain{frameAt(n, area, i), objectSector(o)})
	}
	for at := 0; at*sectorBytes < len(f.State); at++ {
		var b sector
		copy(b[:], f.State[at*sectorBytes:])
		l = append(l, lain{stateAt(n, area, at), b})
	}
	return append(l, lain{headAt(n, area), headSector(f)})
}

// readOrder are a frame's sectors, in the order in which they are read.
func readOrder(n, area int, f api.Frame) []int {
	l := sectorsOf(laid(n, area, f))
	return append(l[len(l)-1:], l[:len(l)-1]...)
}

func sectorsOf(l []lain) []int {
	var sectors []int
	for _, x := range l {
		sectors = append(sectors, x.sector)
	}
	return sectors
}

// headOf is a frame as Head tells it.
func headOf(f api.Frame) api.Frame {
	return api.Frame{Edition: f.Edition, Oids: f.Oids, State: make([]byte, len(f.State))}
}

func same(a, b api.Frame) bool {
	if a.Edition != b.Edition || len(a.Oids) != len(b.Oids) || len(a.Objects) != len(b.Objects) || string(a.State) != string(b.State) {
		return false
	}
	for i := range a.Oids {
		if a.Oids[i] != b.Oids[i] {
			return false
		}
	}
	for i := range a.Objects {
		if a.Objects[i] != b.Objects[i] {
			return false
		}
	}
	return true
}

// Frames to try

// row tells numbers that look drawn by lot, the same ones each time.
func row(seed uint32) func(below int) int {
	return func(below int) int {
		seed = seed*1664525 + 1013904223
		return int(seed>>8) % below
	}
}

func drawn(count int, seed uint32) []byte {
	next := row(seed)
	b := make([]byte, count)
	for i := range b {
		b[i] = byte(next(256))
	}
	return b
}

func page(seed int) api.Object {
	o := api.Object{Kind: api.ObjPage, Count: int64(seed)}
	copy(o.Bytes[:], drawn(64, uint32(seed)))
	return o
}

// node has a key of each kind, and one of the last object of n.
func node(n int) api.Object {
	o := api.Object{Kind: api.ObjNode, Count: 1<<32 - 1, Calls: 1<<32 - 2, Bytes: [64]byte{63: 9}}
	o.Slots = [16]api.Key{
		{Kind: api.KeyNumber, Value: -1}, {Kind: api.KeyNode, Oid: n - 1, Count: 3, Rights: 7}, {Kind: api.KeyPage, Rights: 1}, {Kind: api.KeyBank, Count: 1},
		{Kind: api.KeyProc}, {Kind: api.KeyStart, Value: math.MinInt64}, {Kind: api.KeyResume, Call: 1<<32 - 1}, {Kind: api.KeyDiscrim},
		{Kind: api.KeyClock}, {Kind: api.KeyCheck}, 15: {Kind: api.KeyNumber, Value: math.MaxInt64},
	}
	return o
}

// object tells the i-th of those to try that may be in a store of n.
func object(n, i int) api.Object {
	return []api.Object{page(i), node(n), {}, {Kind: api.ObjRetired, Count: 1<<32 - 1}, {Count: 5}, {Kind: api.ObjNode}}[i%6]
}

// frame has the objects of these Oids, and so many bytes of state.
func frame(n int, edition int64, state int, oids ...int) api.Frame {
	f := api.Frame{Edition: edition, Oids: oids, State: drawn(state, uint32(state))}
	for i := range oids {
		f.Objects = append(f.Objects, object(n, i+state))
	}
	return f
}

func upTo(n int) []int {
	var l []int
	for oid := range n {
		l = append(l, oid)
	}
	return l
}

func stateSizes() []int {
	return []int{0, 1, 2, 3, 4, 255, 256, 257, 511, 512, 513, 1023, 1024, 1025, 2048, 3584, 3585, 4095, 4096}
}

// frames may all be of a plan for n.
func frames(n int) []api.Frame {
	l := []api.Frame{{}, {Oids: []int{}, Objects: []api.Object{}, State: []byte{}}, {Edition: 1}, {Edition: math.MaxInt64}, {Edition: 1 << 32}, {Edition: 0x0102030405060708}}
	for _, size := range stateSizes() {
		l = append(l, frame(n, int64(size), size), frame(n, 3, size, n-1))
	}
	l = append(l, frame(n, 2, 4096, upTo(n)...), frame(n, 3, 0, upTo(n)...), frame(n, math.MaxInt64, 700, upTo(n)[n/2:]...))
	l = append(l, api.Frame{State: make([]byte, 513)}, api.Frame{State: append(make([]byte, 512), 1)}, api.Frame{State: []byte{0}}, api.Frame{State: []byte{0, 0, 0, 0}})
	if n > 2 {
		l = append(l, frame(n, 9, 3, 0, 2), frame(n, 9, 513, 0, n-1), frame(n, 9, 0, 1, 2))
	}
	return l
}

// badFrames may not be of a plan for n, each for one thing alone.
func badFrames(n int) []api.Frame {
	two := make([]api.Object, 2)
	l := []api.Frame{
		{Edition: -1}, {Edition: math.MinInt64}, {Edition: -1 << 32},
		{State: make([]byte, 4097)}, {State: make([]byte, 4608)}, {State: make([]byte, 1<<16)}, {State: make([]byte, 1<<16+1)}, {State: make([]byte, 1<<20)},
		{Oids: []int{0}}, {Objects: make([]api.Object, 1)}, {Oids: []int{0}, Objects: two}, {Objects: make([]api.Object, 65)},
		{Oids: []int{n}, Objects: two[:1]}, {Oids: []int{n + 1}, Objects: two[:1]}, {Oids: []int{-1}, Objects: two[:1]}, {Oids: []int{64}, Objects: two[:1]}, {Oids: []int{1 << 16}, Objects: two[:1]},
		{Oids: []int{math.MinInt}, Objects: two[:1]}, {Oids: []int{math.MaxInt}, Objects: two[:1]}, {Oids: []int{1 << 32}, Objects: two[:1]},
		{Oids: []int{0, 0}, Objects: two}, {Oids: []int{n - 1, n - 1}, Objects: two}, {Oids: []int{-1, 0}, Objects: two}, {Oids: []int{n - 1, n}, Objects: two}, {Oids: []int{n, 0}, Objects: two},
		{Oids: append(upTo(n), n), Objects: make([]api.Object, n+1)}, {Oids: append(upTo(n), n-1), Objects: make([]api.Object, n+1)}, {Oids: append(upTo(n), 0), Objects: make([]api.Object, n+1)},
		{Oids: upTo(n), Objects: make([]api.Object, n-1)}, {Oids: upTo(n), Objects: make([]api.Object, n+1)}, {Oids: make([]int, 1<<10), Objects: make([]api.Object, 1<<10)},
	}
	if n > 1 {
		l = append(l, api.Frame{Oids: []int{1, 0}, Objects: two}, api.Frame{Oids: []int{0, 1}, Objects: two[:1]}, api.Frame{Oids: []int{0, 1}})
	}
	for _, o := range badObjects(n) {
		l = append(l, api.Frame{Oids: []int{0}, Objects: []api.Object{o}})
		if n > 1 {
			l = append(l, api.Frame{Oids: []int{0, 1}, Objects: []api.Object{{}, o}})
		}
	}
	return l
}

func holding(k api.Key) api.Object {
	return api.Object{Kind: api.ObjNode, Slots: [16]api.Key{15: k}}
}

// badObjects may not be in a store of n.
func badObjects(n int) []api.Object {
	return []api.Object{
		{Kind: 4}, {Kind: -1}, {Kind: 256}, {Count: -1}, {Count: 1 << 32}, {Calls: 1}, {Bytes: [64]byte{1}}, {Kind: api.ObjRetired, Calls: 1}, {Kind: api.ObjRetired, Bytes: [64]byte{63: 1}},
		{Kind: api.ObjPage, Calls: 1}, {Kind: api.ObjPage, Slots: [16]api.Key{{Kind: api.KeyClock}}}, {Kind: api.ObjNode, Calls: -1}, {Kind: api.ObjNode, Calls: 1 << 32},
		holding(api.Key{Kind: api.KeyNode, Oid: n}), holding(api.Key{Kind: api.KeyPage, Rights: 2}), holding(api.Key{Kind: 11}), holding(api.Key{Kind: api.KeyBank, Oid: -1}), holding(api.Key{Value: 1}),
	}
}

func noPlans() []int {
	return []int{0, -1, -2, -6, 65, 66, 128, math.MinInt, math.MinInt + 1, math.MaxInt, math.MaxInt - 1, 1 << 32, 1<<32 + 1, -1 << 32, 1 << 62, math.MaxInt / 3, math.MaxInt/3 + 1}
}

func goodPlans() []int { return []int{1, 2, 3, 4, 7, 31, 63, 64} }

func noAreas() []int {
	return []int{-1, 2, 3, -2, math.MinInt, math.MaxInt, 1 << 32, 1<<32 + 1, 256, 257, 1 << 63 / 4, -1 << 32}
}

// Disks to try

func newDisk(t *testing.T, sectors int) *disk.Disk {
	t.Helper()
	d, e := disk.New(sectors)
	if e != api.OK {
		t.Fatalf("New(%d): %v", sectors, e)
	}
	return d
}

// drawnDisk has in each of its sectors something that nobody laid there.
func drawnDisk(t *testing.T, sectors int) *disk.Disk {
	t.Helper()
	d, e := disk.Of(drawn(sectors*sectorBytes, uint32(sectors)))
	if e != api.OK {
		t.Fatalf("Of(%d sectors): %v", sectors, e)
	}
	return d
}

func put(t *testing.T, d *disk.Disk, n int, b sector) {
	t.Helper()
	if e := d.Write(n, b); e != api.OK {
		t.Fatalf("Write(%d): %v", n, e)
	}
}

func get(d *disk.Disk, n int) sector {
	return sector(d.Bytes()[n*sectorBytes : (n+1)*sectorBytes])
}

// lay lays a frame down by the words of the document alone.
func lay(t *testing.T, d *disk.Disk, n, area int, f api.Frame) {
	t.Helper()
	for _, x := range laid(n, area, f) {
		put(t, d, x.sector, x.bytes)
	}
}

// with is a disk on which a frame lies, and in all other sectors something else.
func with(t *testing.T, sectors, n, area int, f api.Frame) *disk.Disk {
	t.Helper()
	d := drawnDisk(t, sectors)
	lay(t, d, n, area, f)
	flush(t, d)
	return d
}

func flush(t *testing.T, d *disk.Disk) {
	t.Helper()
	if e := d.Flush(); e != api.OK {
		t.Fatalf("Flush: %v", e)
	}
}

// fewWords tells a frame in short.
func fewWords(f api.Frame) any {
	return struct {
		Edition        int64
		Oids           []int
		Objects, State int
	}{f.Edition, f.Oids, len(f.Objects), len(f.State)}
}

// readTells fails, if Read does not tell just that, by so many steps.
func readTells(t *testing.T, d *disk.Disk, n, area int, want api.Frame, e api.Errno, steps int) {
	t.Helper()
	was := d.Steps()
	got, f := logs.Read(d, plan(n), area)
	if !same(got, want) || f != e {
		t.Errorf("Read(%d, %d) = %v, %v, want %v, %v", n, area, fewWords(got), f, fewWords(want), e)
	}
	if made := d.Steps() - was; made != steps {
		t.Errorf("Read(%d, %d), %v: %d steps, want %d", n, area, f, made, steps)
	}
}

func headTells(t *testing.T, d *disk.Disk, n, area int, want api.Frame, e api.Errno, steps int) {
	t.Helper()
	was := d.Steps()
	got, f := logs.Head(d, plan(n), area)
	if !same(got, want) || f != e {
		t.Errorf("Head(%d, %d) = %v, %v, want %v, %v", n, area, fewWords(got), f, fewWords(want), e)
	}
	if made := d.Steps() - was; made != steps {
		t.Errorf("Head(%d, %d), %v: %d steps, want %d", n, area, f, made, steps)
	}
}

// has fails, if Read and Head do not tell that the area has that frame.
func has(t *testing.T, d *disk.Disk, n, area int, f api.Frame) {
	t.Helper()
	readTells(t, d, n, area, f, api.OK, len(laid(n, area, f)))
	headTells(t, d, n, area, headOf(f), api.OK, 1)
}

func writeTells(t *testing.T, d *disk.Disk, n, area int, f api.Frame, e api.Errno, steps int) {
	t.Helper()
	was := d.Steps()
	if got := logs.Write(d, plan(n), area, f); got != e {
		t.Errorf("Write(%d, %d, %v) = %v, want %v", n, area, fewWords(f), got, e)
	}
	if made := d.Steps() - was; made != steps {
		t.Errorf("Write(%d, %d, %v): %d steps, want %d", n, area, fewWords(f), made, steps)
	}
}

// The chapter's examples

func TestExamples(t *testing.T) {
	d := newDisk(t, 29)
	f := api.Frame{Edition: 1, Oids: []int{0, 2}, Objects: []api.Object{{Kind: api.ObjPage, Count: 5}, {}}, State: []byte("abc")}
	writeTells(t, d, 3, 1, f, api.OK, 4)
	if l := d.Waits(); !slices.Equal(l, []int{23, 24, 15, 14}) {
		t.Errorf("Waits: %v", l)
	}
	readTells(t, d, 3, 1, f, api.OK, 4)
	readTells(t, d, 3, 0, api.Frame{}, errLog, 1)
	for _, x := range []api.Frame{{Oids: []int{2, 1}, Objects: make([]api.Object, 2)}, {Oids: []int{3}, Objects: make([]api.Object, 1)}, {State: make([]byte, 4097)}} {
		if e := logs.Check(plan(3), x); e != api.ErrArg {
			t.Errorf("Check(%v) = %v", fewWords(x), e)
		}
	}
	if e := d.Spoil(14, 0, 1); e != api.OK {
		t.Error(e)
	}
	readTells(t, d, 3, 1, api.Frame{}, errLog, 1)
}

// TestHeadByHand holds the head's bytes against those that are written out here.
func TestHeadByHand(t *testing.T) {
	d := newDisk(t, 29)
	f := api.Frame{Edition: 258, Oids: []int{0, 2}, Objects: []api.Object{{}, {Kind: api.ObjPage, Count: 5}}, State: []byte("123456789")}
	writeTells(t, d, 3, 0, f, api.OK, 4)
	want := []byte("CHLG\x02\x01\x00\x00\x00\x00\x00\x00\x02\x00\x09\x00\x26\x39\xf4\xcb")
	free, five := make([]byte, summed), make([]byte, summed)
	five[0], five[4] = 2, 5
	want = append(want, 0, 0)
	want = binary.LittleEndian.AppendUint32(want, crc32.ChecksumIEEE(free))
	want = append(want, 2, 0)
	want = binary.LittleEndian.AppendUint32(want, crc32.ChecksumIEEE(five))
	want = append(want, make([]byte, summed-len(want))...)
	want = binary.LittleEndian.AppendUint32(want, crc32.ChecksumIEEE(want))
	if b := get(d, 2); !bytes.Equal(b[:], want) {
		t.Errorf("the head is % x, want % x", b, want)
	}
	if b := get(d, 3); b != (sector{'1', '2', '3', '4', '5', '6', '7', '8', '9'}) {
		t.Errorf("the state's sector is % x", b)
	}
	if b := get(d, 12); !bytes.Equal(b[:summed], five) {
		t.Errorf("the second object's sector is % x", b)
	}
	if e := logs.Write(d, plan(3), 1, api.Frame{State: make([]byte, 4096)}); e != api.OK {
		t.Error(e)
	}
	if b := get(d, 14); string(b[12:16]) != "\x00\x00\x00\x10" {
		t.Errorf("the head of no objects and 4096 bytes has % x", b[12:16])
	}
}

// P7.1

func checkTells(t *testing.T, n int, f api.Frame, want api.Errno) {
	t.Helper()
	if e := logs.Check(plan(n), f); e != want {
		t.Errorf("Check(%d, %v) = %v, want %v", n, fewWords(f), e, want)
	}
}

func TestCheck(t *testing.T) {
	for n := 1; n <= maxObjects; n++ {
		for _, f := range frames(n) {
			checkTells(t, n, f, api.OK)
		}
		for _, f := range badFrames(n) {
			checkTells(t, n, f, api.ErrArg)
		}
	}
	for _, n := range noPlans() {
		for _, f := range slices.Concat(frames(1), frames(64), badFrames(3)) {
			checkTells(t, n, f, api.ErrArg)
		}
	}
}

// What one plan has another one may not have.
func TestCheckByThePlan(t *testing.T) {
	for n := 1; n < maxObjects; n++ {
		last := api.Frame{Oids: []int{n}, Objects: make([]api.Object, 1)}
		named := api.Frame{Oids: []int{0}, Objects: []api.Object{holding(api.Key{Kind: api.KeyProc, Oid: n})}}
		for _, f := range []api.Frame{last, named, frame(n+1, 1, 1, upTo(n+1)...)} {
			checkTells(t, n, f, api.ErrArg)
			checkTells(t, n+1, f, api.OK)
		}
	}
}

func TestCheckOfEachState(t *testing.T) {
	for size := range maxState + 520 {
		want := api.OK
		if size > maxState {
			want = api.ErrArg
		}
		checkTells(t, 1, api.Frame{State: make([]byte, size)}, want)
	}
}

// Of three Oids each choice is tried, below and above the plan's too.
func TestCheckOfOids(t *testing.T) {
	for a := -1; a <= 4; a++ {
		for b := -1; b <= 4; b++ {
			for c := -1; c <= 4; c++ {
				want := api.ErrArg
				if 0 <= a && a < b && b < c && c < 4 {
					want = api.OK
				}
				checkTells(t, 4, api.Frame{Oids: []int{a, b, c}, Objects: make([]api.Object, 3)}, want)
			}
		}
	}
}

func TestSame(t *testing.T) {
	f := frame(3, 7, 5, 0, 2)
	change := func(do func(*api.Frame)) api.Frame {
		x := clone(f)
		do(&x)
		return x
	}
	others := []api.Frame{
		{}, headOf(f),
		change(func(x *api.Frame) { x.Edition++ }), change(func(x *api.Frame) { x.Edition = -7 }), change(func(x *api.Frame) { x.Edition += 1 << 32 }),
		change(func(x *api.Frame) { x.Oids[0] = 1 }), change(func(x *api.Frame) { x.Oids[1] = 3 }), change(func(x *api.Frame) { x.Oids = []int{2, 0} }),
		change(func(x *api.Frame) { x.Oids = x.Oids[:1] }), change(func(x *api.Frame) { x.Oids = append(x.Oids, 3) }), change(func(x *api.Frame) { x.Oids = nil }),
		change(func(x *api.Frame) { x.Objects[0].Count++ }), change(func(x *api.Frame) { x.Objects[1].Bytes[63] ^= 1 }), change(func(x *api.Frame) { x.Objects[1].Slots[15].Value ^= 1 }),
		change(func(x *api.Frame) { x.Objects[0].Calls++ }), change(func(x *api.Frame) { x.Objects[0].Kind++ }), change(func(x *api.Frame) { slices.Reverse(x.Objects) }),
		change(func(x *api.Frame) { x.Objects = x.Objects[:1] }), change(func(x *api.Frame) { x.Objects = append(x.Objects, api.Object{}) }), change(func(x *api.Frame) { x.Objects = nil }),
		change(func(x *api.Frame) { x.State[0] ^= 1 }), change(func(x *api.Frame) { x.State[4] ^= 128 }), change(func(x *api.Frame) { x.State = x.State[:4] }),
		change(func(x *api.Frame) { x.State = append(x.State, 0) }), change(func(x *api.Frame) { x.State = nil }),
	}
	sameTells(t, f, clone(f), true)
	for i, a := range others {
		sameTells(t, a, f, false)
		sameTells(t, f, a, false)
		for j, b := range others {
			sameTells(t, a, b, i == j)
		}
	}
}

func sameTells(t *testing.T, a, b api.Frame, want bool) {
	t.Helper()
	if got := logs.Same(a, b); got != want {
		t.Errorf("Same(%v, %v) = %v", fewWords(a), fewWords(b), got)
	}
}

// Frames that may not be are asked as well, and no list is as an empty one.
func TestSameOfAny(t *testing.T) {
	sameTells(t, api.Frame{}, api.Frame{Oids: []int{}, Objects: []api.Object{}, State: []byte{}}, true)
	sameTells(t, api.Frame{Edition: 4, Oids: []int{}}, api.Frame{Edition: 4, State: []byte{}}, true)
	all := slices.Concat(badFrames(3), frames(3))
	for _, a := range all {
		sameTells(t, a, clone(a), true)
		for _, b := range all {
			sameTells(t, a, b, same(a, b))
		}
	}
}

// P7.2

func writes(t *testing.T, n, area, sectors int, f api.Frame) {
	t.Helper()
	d := drawnDisk(t, sectors)
	want, lasts := d.Bytes(), d.Bytes()
	l := laid(n, area, f)
	writeTells(t, d, n, area, f, api.OK, len(l))
	for _, x := range l {
		copy(want[x.sector*sectorBytes:], x.bytes[:])
	}
	if got := d.Waits(); !slices.Equal(got, sectorsOf(l)) {
		t.Errorf("Write(%d, %d, %v): what waits is %v, want %v", n, area, fewWords(f), got, sectorsOf(l))
	}
	if !bytes.Equal(d.Bytes(), want) {
		t.Errorf("Write(%d, %d, %v): the disk is not as it should be", n, area, fewWords(f))
	}
	left, e := d.Crash(api.Crash{Torn: -1})
	if e != api.OK || !bytes.Equal(left.Bytes(), lasts) {
		t.Errorf("Write(%d, %d, %v): something lasts already", n, area, fewWords(f))
	}
}

func TestWrite(t *testing.T) {
	for _, n := range goodPlans() {
		for _, f := range frames(n) {
			for area := range 2 {
				writes(t, n, area, sizeOf(n), f)
			}
		}
	}
	for n := 1; n <= maxObjects; n++ {
		writes(t, n, n%2, sizeOf(n), frame(n, 1, 600, upTo(n)...))
	}
}

func TestWriteOnAGreaterDisk(t *testing.T) {
	for _, n := range []int{1, 3, 64} {
		for area := range 2 {
			writes(t, n, area, sizeOf(n)+1, frame(n, 1, 600, n-1))
			writes(t, n, area, 4096, frame(n, 1, 600, n-1))
		}
	}
}

// askedFor is what refuses a call ahead of any step.
func askedFor(d *disk.Disk, n, area int, may bool) api.Errno {
	switch {
	case d == nil || d.Size() == 0:
		return api.ErrNil
	case n < 1 || n > maxObjects || d.Size() < sizeOf(n) || area != 0 && area != 1 || !may:
		return api.ErrArg
	}
	return api.OK
}

// refuses fails, if one of the calls does not refuse that, or makes a step.
func refuses(t *testing.T, d *disk.Disk, n, area int) {
	t.Helper()
	if e := askedFor(d, n, area, true); e != api.OK {
		writeTells(t, d, n, area, frame(1, 1, 1, 0), e, 0)
		writeTells(t, d, n, area, api.Frame{}, e, 0)
		readTells(t, d, n, area, api.Frame{}, e, 0)
		headTells(t, d, n, area, api.Frame{}, e, 0)
	}
	for _, f := range []api.Frame{{Edition: -1}, {Oids: []int{0, 0}, Objects: make([]api.Object, 2)}, {State: make([]byte, 4097)}, {Oids: []int{0}, Objects: []api.Object{{Kind: 4}}}} {
		writeTells(t, d, n, area, f, askedFor(d, n, area, false), 0)
	}
}

// TestRefused goes over disks, plans and areas, wrong ones by themselves and together: no disk is ahead of all else, and what is refused is ahead of a step that fails.
func TestRefused(t *testing.T) {
	disks := []*disk.Disk{nil, {}}
	for _, sectors := range []int{1, 2, 22, 23, 28, 29, 30, 211, 212, 213, 4096} {
		d := newDisk(t, sectors)
		if e := d.Fail(0); e != api.OK {
			t.Fatal(e)
		}
		disks = append(disks, d)
	}
	for _, d := range disks {
		was := d.Bytes()
		for _, n := range append(noPlans(), 1, 3, 64) {
			for _, area := range append(noAreas(), 0, 1) {
				refuses(t, d, n, area)
			}
		}
		if d.Steps() != 0 || len(d.Waits()) != 0 || !bytes.Equal(d.Bytes(), was) {
			t.Errorf("a disk of %d sectors is changed by what was refused", d.Size())
		}
	}
}

func TestTooSmall(t *testing.T) {
	for n := 1; n <= maxObjects; n++ {
		for _, area := range []int{0, 1} {
			refuses(t, newDisk(t, sizeOf(n)-1), n, area)
			f := frame(n, 1, 1, n-1)
			for _, sectors := range []int{sizeOf(n), sizeOf(n) + 1} {
				d := newDisk(t, sectors)
				writeTells(t, d, n, area, f, api.OK, 3)
				has(t, d, n, area, f)
			}
		}
	}
}

func TestWriteOfBadFrames(t *testing.T) {
	for _, n := range goodPlans() {
		d := newDisk(t, sizeOf(n))
		for _, f := range badFrames(n) {
			for area := range 2 {
				writeTells(t, d, n, area, f, api.ErrArg, 0)
			}
			writeTells(t, nil, n, 0, f, api.ErrNil, 0)
		}
		if len(d.Waits()) != 0 {
			t.Errorf("of %d objects: what was refused waits", n)
		}
	}
}

func failing() []api.Frame {
	return []api.Frame{{}, frame(5, 1, 0, 1), frame(5, 1, 513), frame(5, 1, 4096, upTo(5)...), frame(5, 1, 3, 0, 4)}
}

// Each step of a Write fails in turn: what was ahead of it waits, and nothing is done behind it.
func TestWriteFails(t *testing.T) {
	for _, f := range failing() {
		for area := range 2 {
			l := laid(5, area, f)
			for at := range l {
				d := drawnDisk(t, 35)
				want := d.Copy()
				for _, x := range l[:at] {
					put(t, want, x.sector, x.bytes)
				}
				d.Fail(at)
				writeTells(t, d, 5, area, f, errDisk, at+1)
				if !disk.Same(d, want) {
					t.Errorf("Write(5, %d, %v), step %d failed: the disk is not as it should be", area, fewWords(f), at)
				}
			}
			d := drawnDisk(t, 35)
			d.Fail(len(l))
			writeTells(t, d, 5, area, f, api.OK, len(l))
		}
	}
}

func TestWriteFailsTwice(t *testing.T) {
	f := frame(5, 1, 513, 0, 1)
	d := newDisk(t, 35)
	d.Fail(3, 1, 4)
	writeTells(t, d, 5, 0, f, errDisk, 2)
	if l := d.Waits(); !slices.Equal(l, []int{11}) {
		t.Errorf("Waits: %v", l)
	}
	writeTells(t, d, 5, 0, f, errDisk, 2) // the steps 2 and 3
	writeTells(t, d, 5, 0, f, errDisk, 1)
	writeTells(t, d, 5, 0, f, api.OK, 5)
	has(t, d, 5, 0, f)
}

// P7.3

func TestRead(t *testing.T) {
	for _, n := range goodPlans() {
		for _, f := range frames(n) {
			for area := range 2 {
				has(t, with(t, sizeOf(n), n, area, f), n, area, f)
			}
		}
	}
}

func TestReadOnAGreaterDisk(t *testing.T) {
	for _, n := range []int{1, 3, 64} {
		for area := range 2 {
			f := frame(n, 1, 600, n-1)
			has(t, with(t, sizeOf(n)+1, n, area, f), n, area, f)
			has(t, with(t, 4096, n, area, f), n, area, f)
		}
	}
}

func TestReadOfNoFrame(t *testing.T) {
	for _, n := range goodPlans() {
		for area := range 2 {
			for _, d := range []*disk.Disk{newDisk(t, sizeOf(n)), drawnDisk(t, sizeOf(n)), with(t, sizeOf(n), n, 1-area, frame(n, 1, 9, 0))} {
				readTells(t, d, n, area, api.Frame{}, errLog, 1)
				headTells(t, d, n, area, api.Frame{}, errLog, 1)
			}
		}
	}
}

// Each step of a Read fails in turn.
func TestReadFails(t *testing.T) {
	for _, f := range failing() {
		for area := range 2 {
			d := with(t, 35, 5, area, f)
			count := len(laid(5, area, f))
			for at := range count {
				d.Fail(at)
				readTells(t, d, 5, area, api.Frame{}, errDisk, at+1)
				has(t, d, 5, area, f)
			}
			d.Fail(count)
			readTells(t, d, 5, area, f, api.OK, count)
			d.Fail(0)
			headTells(t, d, 5, area, api.Frame{}, errDisk, 1)
			d.Fail(1)
			headTells(t, d, 5, area, headOf(f), api.OK, 1)
		}
	}
}

// found is behind how many steps a sector that is not as it was ends a Read: of the state alone all is read, for its sum is of all.
func found(at int, f api.Frame) int {
	if at > len(f.Oids) {
		return len(f.Oids) + 1 + (len(f.State)+sectorBytes-1)/sectorBytes
	}
	return at + 1
}

// A sector is spoilt and a step fails: whichever comes first ends a Read.
func TestReadEnds(t *testing.T) {
	for _, f := range failing() {
		for area := range 2 {
			order := readOrder(5, area, f)
			for at, n := range order {
				d := with(t, 35, 5, area, f)
				d.Spoil(n, 0, 1)
				steps := found(at, f)
				readTells(t, d, 5, area, api.Frame{}, errLog, steps)
				for fails := range order {
					d.Fail(fails)
					if fails < steps {
						readTells(t, d, 5, area, api.Frame{}, errDisk, fails+1)
					} else {
						readTells(t, d, 5, area, api.Frame{}, errLog, steps)
					}
				}
				d.Fail()
				if at > 0 {
					headTells(t, d, 5, area, headOf(f), api.OK, 1)
				} else {
					headTells(t, d, 5, area, api.Frame{}, errLog, 1)
				}
			}
		}
	}
}

// Heads that are sealed, and say something else

// forged is a frame of the Edition 7, with the objects 0 and 2 of 3 and a state of 3 bytes.
func forged() api.Frame { return frame(3, 7, 3, 0, 2) }

// headsTell puts a head in place of the frame's, and fails, if Read and Head do not tell just that.
func headsTell(t *testing.T, what string, b sector, read, head api.Frame, e, h api.Errno, steps int) {
	t.Helper()
	for area := range 2 {
		d := with(t, 29, 3, area, forged())
		put(t, d, headAt(3, area), b)
		was := t.Failed()
		readTells(t, d, 3, area, read, e, steps)
		headTells(t, d, 3, area, head, h, 1)
		if t.Failed() && !was {
			t.Errorf("with a head of %s", what)
		}
	}
}

// noHead fails, if that is taken as a head.
func noHead(t *testing.T, what string, change func(b []byte)) {
	t.Helper()
	b := headSector(forged())
	change(b[:])
	headsTell(t, what, sealed(b), api.Frame{}, api.Frame{}, errLog, errLog, 1)
}

func put16(b []byte, n int) { binary.LittleEndian.PutUint16(b, uint16(n)) }

func TestOtherMarks(t *testing.T) {
	for at := range 4 {
		for bit := range 8 {
			noHead(t, "another mark", func(b []byte) { b[at] ^= 1 << bit })
		}
	}
	for _, mark := range []string{"GLHC", "chlg", "CHHD", "\x00\x00\x00\x00", "CHL\x00"} {
		noHead(t, mark, func(b []byte) { copy(b, mark) })
	}
}

func TestOtherEditions(t *testing.T) {
	noHead(t, "Edition 2^63", func(b []byte) { copy(b[4:12], "\x00\x00\x00\x00\x00\x00\x00\x80") })
	noHead(t, "Edition 2^63 + 7", func(b []byte) { b[11] = 0x80 })
	noHead(t, "Edition 2^64 - 1", func(b []byte) { copy(b[4:12], "\xff\xff\xff\xff\xff\xff\xff\xff") })
	for _, edition := range []int64{0, 1, 8, 1 << 40, math.MaxInt64} { // these are heads of other frames, that lie there too
		b := headSector(forged())
		binary.LittleEndian.PutUint64(b[4:], uint64(edition))
		f := forged()
		f.Edition = edition
		headsTell(t, "another Edition", sealed(b), f, headOf(f), api.OK, api.OK, 4)
	}
}

func TestOtherCounts(t *testing.T) {
	for _, count := range []int{0, 1, 3, 4, 63, 64, 65, 80, 81, 82, 83, 84, 85, 86, 255, 256, 258, 0x8000, 0xfffe, 0xffff} {
		noHead(t, "another number of objects", func(b []byte) { put16(b[12:], count) })
	}
}

// rows lays so many objects' rows, with rising Oids.
func rows(b []byte, count int) {
	put16(b[12:], count)
	for i := range count {
		if rowsFrom+6*i+6 <= summed {
			put16(b[rowsFrom+6*i:], i)
			binary.LittleEndian.PutUint32(b[rowsFrom+6*i+2:], 0xffffffff)
		}
	}
}

func TestMoreRowsThanThePlanHas(t *testing.T) {
	for count := 4; count < 90; count++ {
		noHead(t, "too many objects", func(b []byte) { rows(b, count) })
	}
	for _, n := range []int{1, 63, 64} {
		for count := n + 1; count < 90; count++ {
			d := newDisk(t, sizeOf(n))
			b := headSector(api.Frame{})
			rows(b[:], count)
			put(t, d, headAt(n, 0), sealed(b))
			readTells(t, d, n, 0, api.Frame{}, errLog, 1)
			headTells(t, d, n, 0, api.Frame{}, errLog, 1)
		}
	}
}

func TestOtherOids(t *testing.T) {
	for a := range 6 {
		for b := range 6 {
			say := func(h []byte) {
				put16(h[rowsFrom:], a)
				put16(h[rowsFrom+6:], b)
			}
			if a >= b || b >= 3 {
				noHead(t, "other Oids", say)
				continue
			}
			h := headSector(forged())
			say(h[:])
			f := forged()
			f.Oids = []int{a, b}
			headsTell(t, "other Oids", sealed(h), f, headOf(f), api.OK, api.OK, 4)
		}
	}
	for _, oid := range []int{64, 255, 256, 258, 0x7fff, 0x8000, 0xffff} {
		noHead(t, "an Oid that no plan has", func(b []byte) { put16(b[rowsFrom+6:], oid) })
		noHead(t, "an Oid that no plan has", func(b []byte) { put16(b[rowsFrom:], oid) })
	}
}

func TestOtherStates(t *testing.T) {
	for _, size := range []int{4097, 4098, 4099, 4608, 5120, 8192, 0x7fff, 0x8000, 0xf003, 0xffff} {
		noHead(t, "too many bytes of state", func(b []byte) { put16(b[14:], size) })
	}
	state := forged().State
	say := func(size int, sum []byte) sector {
		b := headSector(forged())
		put16(b[14:], size)
		binary.LittleEndian.PutUint32(b[16:], crc32.ChecksumIEEE(sum))
		return sealed(b)
	}
	f := forged()
	for _, size := range []int{1, 2} { // there is something behind these
		f.State = state[:size]
		headsTell(t, "fewer bytes", say(size, f.State), api.Frame{}, headOf(f), errLog, api.OK, 4)
	}
	for _, size := range []int{4, 100, 512} { // these lie there, too
		f.State = append(slices.Clone(state), make([]byte, size-3)...)
		headsTell(t, "more bytes", say(size, f.State), f, headOf(f), api.OK, api.OK, 4)
		headsTell(t, "more bytes than the sum's", say(size, state), api.Frame{}, headOf(f), errLog, api.OK, 4)
	}
	f.State = make([]byte, 513)
	headsTell(t, "a sector more", say(513, state), api.Frame{}, headOf(f), errLog, api.OK, 5)
	f.State = make([]byte, 4096)
	headsTell(t, "all sectors", say(4096, state), api.Frame{}, headOf(f), errLog, api.OK, 11)
	f.State = nil
	headsTell(t, "no bytes", say(0, nil), f, headOf(f), api.OK, api.OK, 3)
	headsTell(t, "no bytes, and another sum", say(0, state), api.Frame{}, api.Frame{}, errLog, errLog, 1)
}

func TestOtherSums(t *testing.T) {
	for _, x := range []struct{ at, steps int }{{16, 4}, {rowsFrom + 2, 2}, {rowsFrom + 8, 3}} {
		for bit := range 32 {
			b := headSector(forged())
			b[x.at+bit/8] ^= 1 << (bit % 8)
			headsTell(t, "another sum", sealed(b), api.Frame{}, headOf(forged()), errLog, api.OK, x.steps)
		}
	}
	b := headSector(forged())
	for i := range 4 {
		b[rowsFrom+2+i], b[rowsFrom+8+i] = b[rowsFrom+8+i], b[rowsFrom+2+i]
	}
	headsTell(t, "sums in each other's place", sealed(b), api.Frame{}, headOf(forged()), errLog, api.OK, 2)
	b = headSector(forged())
	o := objectSector(forged().Objects[0])
	binary.LittleEndian.PutUint32(b[rowsFrom+2:], crc32.ChecksumIEEE(o[:]))
	headsTell(t, "the sum of a whole sector", sealed(b), api.Frame{}, headOf(forged()), errLog, api.OK, 2)
	b = headSector(forged())
	s := append(forged().State, make([]byte, 509)...)
	binary.LittleEndian.PutUint32(b[16:], crc32.ChecksumIEEE(s))
	headsTell(t, "the sum of the state's whole sector", sealed(b), api.Frame{}, headOf(forged()), errLog, api.OK, 4)
}

func TestBehindTheRows(t *testing.T) {
	for at := rowsFrom + 12; at < summed; at++ {
		noHead(t, "something behind its rows", func(b []byte) { b[at] = byte(1 << (at % 8)) })
	}
	noHead(t, "ones behind its rows", func(b []byte) { copy(b[rowsFrom+12:summed], bytes.Repeat([]byte{255}, sectorBytes)) })
	d := with(t, 212, 64, 0, frame(64, 1, 3, upTo(64)...))
	b := get(d, 2)
	b[rowsFrom+6*64] = 1
	put(t, d, 2, sealed(b))
	readTells(t, d, 64, 0, api.Frame{}, errLog, 1)
	b[rowsFrom+6*64] = 0
	put(t, d, 2, sealed(b))
	has(t, d, 64, 0, frame(64, 1, 3, upTo(64)...))
	b[507] = 1
	put(t, d, 2, sealed(b))
	readTells(t, d, 64, 0, api.Frame{}, errLog, 1)
}

func TestNoSeal(t *testing.T) {
	for at := summed; at < sectorBytes; at++ {
		for bit := range 8 {
			b := headSector(forged())
			b[at] ^= 1 << bit
			headsTell(t, "another seal", b, api.Frame{}, api.Frame{}, errLog, errLog, 1)
		}
	}
	b := headSector(forged())
	b[summed], b[511] = b[511], b[summed]
	b[509], b[510] = b[510], b[509]
	headsTell(t, "a seal the other way round", b, api.Frame{}, api.Frame{}, errLog, errLog, 1)
	headsTell(t, "noughts", sector{}, api.Frame{}, api.Frame{}, errLog, errLog, 1)
	headsTell(t, "sealed noughts", sealed(sector{}), api.Frame{}, api.Frame{}, errLog, errLog, 1)
}

// A frame of no objects and no state has its head alone, so of it Read tells what Head tells.
func TestHeadAlone(t *testing.T) {
	for _, edition := range []int64{0, 1, math.MaxInt64} {
		for area := range 2 {
			d := with(t, 29, 3, area, api.Frame{Edition: edition})
			readTells(t, d, 3, area, api.Frame{Edition: edition}, api.OK, 1)
			headTells(t, d, 3, area, api.Frame{Edition: edition}, api.OK, 1)
			b := get(d, headAt(3, area))
			b[16] = 1 // the state's sum
			put(t, d, headAt(3, area), sealed(b))
			readTells(t, d, 3, area, api.Frame{}, errLog, 1)
			headTells(t, d, 3, area, api.Frame{}, errLog, 1)
		}
	}
}

// Objects' and states' sectors that are others

func TestOtherObjects(t *testing.T) {
	f := forged()
	for i := range f.Objects {
		was := objectSector(f.Objects[i])
		unsealed := was
		unsealed[511] ^= 1
		for _, b := range []sector{objectSector(page(77)), objectSector(f.Objects[1-i]), unsealed, {}, sealed(sector{9})} {
			d := with(t, 29, 3, 1, f)
			put(t, d, frameAt(3, 1, i), b)
			readTells(t, d, 3, 1, api.Frame{}, errLog, i+2)
			headTells(t, d, 3, 1, headOf(f), api.OK, 1)
			put(t, d, frameAt(3, 1, i), was)
			has(t, d, 3, 1, f)
		}
	}
}

// laidAs is a disk whose head has the sums of these objects' sectors, whatever they are.
func laidAs(t *testing.T, n, area int, f api.Frame, sectors ...sector) *disk.Disk {
	t.Helper()
	d := with(t, sizeOf(n), n, area, f)
	h := get(d, headAt(n, area))
	for i, b := range sectors {
		binary.LittleEndian.PutUint32(h[rowsFrom+6*i+2:], crc32.ChecksumIEEE(b[:summed]))
		put(t, d, frameAt(n, area, i), b)
	}
	put(t, d, headAt(n, area), sealed(h))
	return d
}

// The head has the sum of what lies there, but that is the sector of no object of the plan.
func TestNoObjects(t *testing.T) {
	f := forged()
	good := objectSector(f.Objects[0])
	unsealed := good
	unsealed[summed] ^= 1
	noughts, behind := good, good
	noughts[1], behind[396] = 1, 1
	for _, b := range []sector{
		unsealed, sealed(noughts), sealed(behind), sealed(sector{4}), sealed(sector{255}), {}, sealed(sector{0, 8: 1}), sealed(sector{2, 12: 8}),
		objectSector(holding(api.Key{Kind: api.KeyNode, Oid: 3})), objectSector(holding(api.Key{Kind: api.KeyNode, Oid: 64})), objectSector(holding(api.Key{Kind: 11})), sealed(sector{2, 507: 1}),
	} {
		d := laidAs(t, 3, 0, f, b)
		readTells(t, d, 3, 0, api.Frame{}, errLog, 2)
		headTells(t, d, 3, 0, headOf(f), api.OK, 1)
		d = laidAs(t, 3, 0, f, good, b)
		readTells(t, d, 3, 0, api.Frame{}, errLog, 3)
	}
	other := objectSector(page(5))
	f.Objects[1] = page(5)
	has(t, laidAs(t, 3, 0, f, good, other), 3, 0, f)
}

func TestBehindTheState(t *testing.T) {
	for _, size := range []int{1, 3, 511, 513, 1023, 4095} {
		f := frame(3, 7, size, 1)
		last := (size - 1) / sectorBytes
		for at := size - last*sectorBytes; at < sectorBytes; at++ {
			d := with(t, 29, 3, 0, f)
			d.Spoil(stateAt(3, 0, last), at, byte(1<<(at%8)))
			readTells(t, d, 3, 0, api.Frame{}, errLog, 3+last)
			headTells(t, d, 3, 0, headOf(f), api.OK, 1)
		}
	}
}

func TestStatesInEachOthersPlace(t *testing.T) {
	f := frame(3, 7, 1024)
	d := with(t, 29, 3, 0, f)
	first, second := get(d, 3), get(d, 4)
	put(t, d, 3, second)
	put(t, d, 4, first)
	readTells(t, d, 3, 0, api.Frame{}, errLog, 3)
}

// A frame is of the plan by which it is read.
func TestReadByAnotherPlan(t *testing.T) {
	f := api.Frame{Edition: 1, Oids: []int{0, 4}, Objects: make([]api.Object, 2), State: []byte("x")}
	d := with(t, 212, 5, 0, f) // the area 0 lies at the same place in each plan
	for n := 1; n <= maxObjects; n++ {
		if n < 5 {
			readTells(t, d, n, 0, api.Frame{}, errLog, 1)
			headTells(t, d, n, 0, api.Frame{}, errLog, 1)
		} else {
			has(t, d, n, 0, f)
		}
	}
	f = api.Frame{Oids: []int{0}, Objects: []api.Object{holding(api.Key{Kind: api.KeyPage, Oid: 4})}}
	d = with(t, 212, 5, 0, f)
	readTells(t, d, 4, 0, api.Frame{}, errLog, 2)
	headTells(t, d, 4, 0, headOf(f), api.OK, 1)
	has(t, d, 5, 0, f)
	has(t, d, 64, 0, f)
}

// P7.4

func written(t *testing.T, d *disk.Disk, n, area int, f api.Frame) {
	t.Helper()
	writeTells(t, d, n, area, f, api.OK, len(laid(n, area, f)))
}

func TestReadBehindWrite(t *testing.T) {
	for _, n := range goodPlans() {
		d := drawnDisk(t, sizeOf(n))
		var last [2]api.Frame
		for i, f := range frames(n) { // one over the other, in each area in turn
			area := i % 2
			written(t, d, n, area, f)
			has(t, d, n, area, f)
			if i > 0 {
				has(t, d, n, 1-area, last[1-area])
			}
			last[area] = f
			if i%5 == 0 {
				flush(t, d)
			}
		}
	}
}

// crashes keep all, none, each one alone, all but one, and others; and tear each one somewhere.
func crashes(waits int) []api.Crash {
	l := []api.Crash{{Torn: -1}}
	next := row(uint32(waits))
	for range 40 {
		keep := make([]bool, waits)
		for i := range keep {
			keep[i] = next(2) == 1
		}
		l = append(l, api.Crash{Keep: keep, Torn: -1}, api.Crash{Keep: keep, Torn: next(waits + 1), Bytes: next(513)})
	}
	for one := range waits + 1 {
		alone, others := make([]bool, waits+1), make([]bool, waits+1)
		for i := range others {
			others[i] = i != one
		}
		alone[one] = true
		l = append(l, api.Crash{Keep: alone, Torn: -1}, api.Crash{Keep: others, Torn: -1})
		for _, count := range []int{0, 1, 2, 4, 11, 12, 16, 20, 32, 256, 507, 508, 511, 512} {
			l = append(l, api.Crash{Keep: others, Torn: one, Bytes: count}, api.Crash{Keep: alone, Torn: one, Bytes: count})
		}
	}
	return l
}

func crashed(t *testing.T, d *disk.Disk, c api.Crash) *disk.Disk {
	t.Helper()
	left, e := d.Crash(c)
	if e != api.OK {
		t.Fatalf("Crash(%v): %v", c, e)
	}
	return left
}

func TestReadBehindACrash(t *testing.T) {
	for i, f := range frames(4) {
		area := i % 2
		d := drawnDisk(t, 32)
		written(t, d, 4, area, f)
		flush(t, d)
		for _, c := range crashes(len(d.Waits())) {
			has(t, crashed(t, d, c), 4, area, f)
		}
		other := frame(4, 8, 900, 0, 3)
		written(t, d, 4, 1-area, other)
		for _, c := range crashes(len(d.Waits())) {
			has(t, crashed(t, d, c), 4, area, f)
		}
	}
}

// lies tells whether all that a frame wants lies there.
func lies(d *disk.Disk, n, area int, f api.Frame) bool {
	b := d.Bytes()
	for _, x := range laid(n, area, f) {
		if sector(b[x.sector*sectorBytes:(x.sector+1)*sectorBytes]) != x.bytes {
			return false
		}
	}
	return true
}

// A frame is written over another one and not flushed: what a crash leaves is the one, or the other one, or none, but never a part of each.
func TestWholeOrNotAtAll(t *testing.T) {
	all := []api.Frame{{}, {Edition: 1}, frame(4, 1, 0, 0, 3), frame(4, 2, 0, 0, 3), frame(4, 1, 900, 0, 3), frame(4, 1, 901, 1, 3), frame(4, 2, 2000, 0, 1, 2, 3), frame(4, 2, 2001)}
	for i, old := range all {
		for j, young := range all {
			d := with(t, 32, 4, 1, old)
			other := frame(4, int64(i+j), 700, 2)
			lay(t, d, 4, 0, other)
			flush(t, d)
			written(t, d, 4, 1, young)
			has(t, d, 4, 1, young)
			for _, c := range crashes(len(d.Waits())) {
				left := crashed(t, d, c)
				has(t, left, 4, 0, other)
				switch {
				case lies(left, 4, 1, young):
					has(t, left, 4, 1, young)
				case lies(left, 4, 1, old):
					has(t, left, 4, 1, old)
				default:
					if got, e := logs.Read(left, plan(4), 1); !same(got, api.Frame{}) || e != errLog {
						t.Errorf("%v over %v, crash %v: Read = %v, %v", fewWords(young), fewWords(old), c, fewWords(got), e)
					}
				}
			}
		}
	}
}

// turn turns the bits of a pattern from a bit of a sector on; those past its end it leaves.
func turn(d *disk.Disk, n, from int, pattern uint32) {
	for i := 0; i < 40; i += 8 {
		bits := byte(uint64(pattern) << (from % 8) >> i)
		if at := from/8 + i/8; at < sectorBytes && bits != 0 {
			d.Spoil(n, at, bits)
		}
	}
}

func patterns() []uint32 {
	return []uint32{1, 3, 0xffffffff, 0x80000001, 0xedb88321, 0xff, 0xc3a5_9669, 0x00010001}
}

func TestTurnedBits(t *testing.T) {
	for i, f := range []api.Frame{{Edition: 5}, frame(3, 5, 0, 0, 2), frame(3, 5, 600, 1)} {
		area := i % 2
		d := with(t, 29, 3, area, f)
		for at, n := range readOrder(3, area, f) {
			steps := found(at, f)
			for i, pattern := range patterns() {
				for from := i; from < sectorBits; from += 1 + i { // one bit alone at each place, others now here and now there
					turn(d, n, from, pattern)
					readTells(t, d, 3, area, api.Frame{}, errLog, steps)
					turn(d, n, from, pattern)
				}
			}
		}
		has(t, d, 3, area, f)
	}
}

func TestTurnedBitsElsewhere(t *testing.T) {
	for _, f := range []api.Frame{{Edition: 5}, frame(3, 5, 0, 0, 2), frame(3, 5, 600, 1)} {
		for area := range 2 {
			d := with(t, 30, 3, area, f)
			wanted := readOrder(3, area, f)
			next := row(uint32(area))
			for n := range 30 {
				if slices.Contains(wanted, n) {
					continue
				}
				for _, pattern := range patterns() {
					for from := next(90); from < sectorBits; from += 1 + next(180) {
						turn(d, n, from, pattern)
						readTells(t, d, 3, area, f, api.OK, len(wanted))
					}
				}
				put(t, d, n, sector{}) // and something else altogether
				has(t, d, 3, area, f)
				flush(t, d)
			}
		}
	}
}

// The other area is as it was, whether a Write goes well or not.
func TestTheOtherArea(t *testing.T) {
	for _, n := range []int{1, 3, 64} {
		for area := range 2 {
			other, old := frame(n, 4, 1000, n-1), frame(n, 5, 2000, 0)
			young := frame(n, 6, 4096, upTo(n)...)
			for fails := range len(laid(n, area, young)) + 1 {
				d := with(t, sizeOf(n)+1, n, 1-area, other)
				lay(t, d, n, area, old)
				was := d.Bytes()
				d.Fail(fails)
				logs.Write(d, plan(n), area, young)
				d.Fail()
				has(t, d, n, 1-area, other)
				for s, x := range slices.Collect(slices.Chunk(d.Bytes(), sectorBytes)) {
					inside := s >= headAt(n, area) && s < headAt(n, area)+9+n
					if !inside && !bytes.Equal(x, was[s*sectorBytes:(s+1)*sectorBytes]) {
						t.Errorf("Write(%d, %d) changes sector %d", n, area, s)
					}
				}
			}
		}
	}
}

// What is handed in, and what is told

func clone(f api.Frame) api.Frame {
	return api.Frame{Edition: f.Edition, Oids: slices.Clone(f.Oids), Objects: slices.Clone(f.Objects), State: bytes.Clone(f.State)}
}

// roomy tells the frame in memory that has spare room behind each list, and all of that memory.
func roomy(f api.Frame) (given, all api.Frame) {
	all = api.Frame{
		Edition: f.Edition,
		Oids:    append(slices.Clone(f.Oids), 91, 92, 93, 94),
		Objects: append(slices.Clone(f.Objects), page(95), page(96)),
		State:   append(bytes.Clone(f.State), bytes.Repeat([]byte{97}, 1024)...),
	}
	given = api.Frame{Edition: f.Edition, Oids: all.Oids[:len(f.Oids)], Objects: all.Objects[:len(f.Objects)], State: all.State[:len(f.State)]}
	return given, all
}

func TestHandedInIsNotChanged(t *testing.T) {
	for _, f := range slices.Concat(frames(3), badFrames(3)) {
		given, all := roomy(f)
		was := clone(all)
		d := newDisk(t, 29)
		logs.Check(plan(3), given)
		logs.Write(d, plan(3), 1, given)
		logs.Same(given, f)
		logs.Same(f, given)
		if !same(all, was) || !same(given, f) {
			t.Errorf("%v is changed, or what is behind it", fewWords(f))
		}
		got, e := logs.Read(d, plan(3), 1)
		wipe(all)
		if again, h := logs.Read(d, plan(3), 1); !same(got, again) || e != h {
			t.Errorf("%v is kept", fewWords(f))
		}
	}
}

// What lies behind a list in its spare room is laid nowhere.
func TestSpareRoomIsNotLaid(t *testing.T) {
	for _, f := range frames(3) {
		given, _ := roomy(f)
		d := drawnDisk(t, 29)
		want := d.Copy()
		lay(t, want, 3, 1, f)
		written(t, d, 3, 1, given)
		if !disk.Same(d, want) {
			t.Errorf("%v is laid as it would not be without the spare room behind its lists", fewWords(f))
		}
	}
}

// wipe changes all that can be come to by a frame.
func wipe(f api.Frame) {
	for i := range f.Oids[:cap(f.Oids)] {
		f.Oids[:cap(f.Oids)][i] = -9
	}
	for i := range f.Objects[:cap(f.Objects)] {
		f.Objects[:cap(f.Objects)][i] = api.Object{Kind: 9}
	}
	for i := range f.State[:cap(f.State)] {
		f.State[:cap(f.State)][i] ^= 255
	}
}

func TestToldIsNewMemory(t *testing.T) {
	for _, f := range frames(3) {
		d := newDisk(t, 29)
		written(t, d, 3, 0, f)
		was := d.Copy()
		first, _ := logs.Read(d, plan(3), 0)
		second, _ := logs.Read(d, plan(3), 0)
		head, _ := logs.Head(d, plan(3), 0)
		wipe(first)
		if !same(second, f) || !same(head, headOf(f)) {
			t.Errorf("%v: two answers share memory", fewWords(f))
		}
		wipe(head)
		if !same(second, f) {
			t.Errorf("%v: two answers share memory", fewWords(f))
		}
		wipe(second)
		has(t, d, 3, 0, f)
		if !disk.Same(d, was) {
			t.Errorf("%v: what is told shares memory with the disk", fewWords(f))
		}
	}
}

// Reading makes nothing wait, and leaves what waits.
func TestReadChangesNothing(t *testing.T) {
	d := drawnDisk(t, 29)
	for _, waits := range []bool{true, false} {
		written(t, d, 3, 1, forged())
		if !waits {
			flush(t, d)
		}
		d.Spoil(2, 1, 1)
		was := d.Copy()
		for area := range 2 {
			for at := range 6 {
				d.Fail(at)
				logs.Read(d, plan(3), area)
				d.Fail(at)
				logs.Head(d, plan(3), area)
			}
		}
		d.Fail()
		if !disk.Same(d, was) {
			t.Error("the disk is changed by what reads it")
		}
	}
}

// Whatever is handed in has its answer: wrong things by themselves, and together.
func TestWhateverIsHandedIn(t *testing.T) {
	all := slices.Concat(badFrames(1), badFrames(64), frames(3))
	for _, d := range []*disk.Disk{nil, {}, newDisk(t, 1), newDisk(t, 23), newDisk(t, 212)} {
		for _, n := range append(noPlans(), 1, 2, 64) {
			for _, area := range append(noAreas(), 0, 1) {
				for _, f := range all {
					may := logs.Check(plan(n), f) == api.OK
					want := askedFor(d, n, area, may)
					if want == api.OK {
						continue // it is written by other tests
					}
					if e := logs.Write(d, plan(n), area, f); e != want {
						t.Errorf("Write(%d, %d, %v) = %v, want %v", n, area, fewWords(f), e, want)
					}
				}
			}
		}
		if d.Steps() != 0 {
			t.Errorf("a disk of %d sectors: %d steps by what was refused", d.Size(), d.Steps())
		}
	}
}

// Heads drawn by lot, near to one that is: what is read lies there.
func TestDrawnHeads(t *testing.T) {
	next := row(17)
	f := forged()
	d := with(t, 29, 3, 1, f)
	for range 20000 {
		b := headSector(f)
		for range 1 + next(3) {
			b[next(40)] = byte(next(256) >> next(8))
		}
		b = sealed(b)
		put(t, d, 14, b)
		got, e := logs.Read(d, plan(3), 1)
		head, h := logs.Head(d, plan(3), 1)
		switch {
		case e == api.OK && (logs.Check(plan(3), got) != api.OK || !lies(d, 3, 1, got) || !same(head, headOf(got)) || h != api.OK):
			t.Errorf("Read tells %v, which does not lie there", fewWords(got))
		case e == errLog && !same(got, api.Frame{}), h == errLog && !same(head, api.Frame{}), e != api.OK && e != errLog, h != api.OK && h != errLog:
			t.Errorf("Read = %v, %v, Head = %v, %v", fewWords(got), e, fewWords(head), h)
		}
		flush(t, d)
	}
}
