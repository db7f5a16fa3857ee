package disk_test

import (
	"bytes"
	"math"
	"slices"
	"testing"

	"chatelaine/api"
	"chatelaine/disk"
)

const sectorBytes = 512

type sector = [sectorBytes]byte

// full tells a sector of one byte, over and over.
func full(b byte) sector {
	var s sector
	for i := range s {
		s[i] = b
	}
	return s
}

// counted tells a sector of which no two bytes near each other are alike, so that a byte that stands in another place is seen.
func counted(seed byte) sector {
	var s sector
	for i := range s {
		s[i] = byte(i*7+i/256) ^ seed
	}
	return s
}

// torn tells a sector whose first so many bytes are another one's.
func torn(over, s sector, count int) sector {
	for i := range count {
		over[i] = s[i]
	}
	return over
}

func row(l ...sector) []byte {
	var b []byte
	for _, s := range l {
		b = append(b, s[:]...)
	}
	return b
}

func made(t *testing.T, sectors int) *disk.Disk {
	t.Helper()
	d, e := disk.New(sectors)
	if d == nil || e != api.OK {
		t.Fatalf("New(%d): %v, %v", sectors, d, e)
	}
	return d
}

func of(t *testing.T, l ...sector) *disk.Disk {
	t.Helper()
	d, e := disk.Of(row(l...))
	if d == nil || e != api.OK {
		t.Fatalf("Of %d sectors: %v, %v", len(l), d, e)
	}
	return d
}

func wants(t *testing.T, what string, got, want api.Errno) {
	t.Helper()
	if got != want {
		t.Errorf("%s: %v, want %v", what, got, want)
	}
}

func write(t *testing.T, d *disk.Disk, n int, s sector) {
	t.Helper()
	wants(t, "Write", d.Write(n, s), api.OK)
}

func flush(t *testing.T, d *disk.Disk) {
	t.Helper()
	wants(t, "Flush", d.Flush(), api.OK)
}

func reads(t *testing.T, d *disk.Disk, n int, want sector) {
	t.Helper()
	got, e := d.Read(n)
	if e != api.OK {
		t.Errorf("Read(%d): %v", n, e)
	}
	for i := range got {
		if got[i] != want[i] {
			t.Errorf("Read(%d): byte %d is %d, want %d", n, i, got[i], want[i])
			return
		}
	}
}

// holds asks all bytes, which is no step.
func holds(t *testing.T, d *disk.Disk, l ...sector) {
	t.Helper()
	steps := d.Steps()
	got, want := d.Bytes(), row(l...)
	if len(got) != len(want) {
		t.Errorf("Bytes tells %d, want %d", len(got), len(want))
		return
	}
	for i := range got {
		if got[i] != want[i] {
			t.Errorf("Bytes: sector %d, byte %d is %d, want %d", i/sectorBytes, i%sectorBytes, got[i], want[i])
			break
		}
	}
	if d.Steps() != steps {
		t.Error("Bytes is a step")
	}
}

func waits(t *testing.T, d *disk.Disk, want ...int) {
	t.Helper()
	if got := d.Waits(); !slices.Equal(got, want) {
		t.Errorf("Waits = %v, want %v", got, want)
	}
}

func steps(t *testing.T, d *disk.Disk, want int) {
	t.Helper()
	if got := d.Steps(); got != want {
		t.Errorf("Steps = %d, want %d", got, want)
	}
}

func crash(t *testing.T, d *disk.Disk, c api.Crash) *disk.Disk {
	t.Helper()
	left, e := d.Crash(c)
	if left == nil || e != api.OK {
		t.Fatalf("Crash(%v): %v, %v", c, left, e)
	}
	return left
}

// lasts asks what a crash that keeps nothing leaves: the lasting bytes.
func lasts(t *testing.T, d *disk.Disk, l ...sector) {
	t.Helper()
	holds(t, crash(t, d, api.Crash{Torn: -1}), l...)
}

// P2.1

func TestNew(t *testing.T) {
	for _, n := range []int{1, 2, 3, 4, 23, 512, 4095, 4096} {
		d := made(t, n)
		if d.Size() != n {
			t.Errorf("Size of New(%d) = %d", n, d.Size())
		}
		if !bytes.Equal(d.Bytes(), make([]byte, n*sectorBytes)) {
			t.Errorf("New(%d) is not noughts", n)
		}
		reads(t, d, 0, sector{})
		reads(t, d, n-1, sector{})
		waits(t, d)
		steps(t, d, 2)
	}
	steps(t, made(t, 4), 0)
}

func TestNewRefuses(t *testing.T) {
	for _, n := range []int{0, -1, -2, 4097, 4098, 8192, 1 << 31, 1 << 32, 1<<32 + 1, math.MaxInt, math.MinInt, math.MinInt + 1} {
		if d, e := disk.New(n); d != nil || e != api.ErrArg {
			t.Errorf("New(%d): %v, %v, want ErrArg alone", n, d, e)
		}
	}
}

func TestOf(t *testing.T) {
	for _, n := range []int{1, 2, 3, 100, 4096} {
		l := make([]sector, n)
		for i := range l {
			l[i] = counted(byte(i) ^ byte(i>>8))
		}
		d := of(t, l...)
		if d.Size() != n {
			t.Errorf("Size of %d sectors = %d", n, d.Size())
		}
		holds(t, d, l...)
		lasts(t, d, l...)
		waits(t, d)
		steps(t, d, 0)
		for i := range min(n, 5) {
			reads(t, d, i, l[i])
		}
		reads(t, d, n-1, l[n-1])
	}
}

func TestOfRefuses(t *testing.T) {
	for _, size := range []int{0, 1, 100, 511, 513, 1023, 1025, 4096*sectorBytes - 1, 4096*sectorBytes + 1, 4097*sectorBytes - 1, 4097 * sectorBytes, 8192 * sectorBytes} {
		if d, e := disk.Of(make([]byte, size)); d != nil || e != api.ErrArg {
			t.Errorf("Of(%d bytes): %v, %v, want ErrArg alone", size, d, e)
		}
	}
	if d, e := disk.Of(nil); d != nil || e != api.ErrArg {
		t.Errorf("Of(nil): %v, %v, want ErrArg alone", d, e)
	}
	if d, e := disk.Of(make([]byte, 100, 512)); d != nil || e != api.ErrArg {
		t.Errorf("Of(100 bytes with room for 512): %v, %v, want ErrArg alone", d, e)
	}
}

func TestBytesTellWhatIsRead(t *testing.T) {
	a, b, c, x := counted(1), counted(2), counted(3), counted(4)
	d := of(t, a, b, c)
	write(t, d, 1, full('y'))
	write(t, d, 1, x)
	holds(t, d, a, x, c)
	write(t, d, 2, sector{})
	holds(t, d, a, x, sector{})
	lasts(t, d, a, b, c)
	flush(t, d)
	holds(t, d, a, x, sector{})
	lasts(t, d, a, x, sector{})
}

func TestOfBytesIsTheSameDisk(t *testing.T) {
	d := of(t, counted(1), counted(2), sector{})
	write(t, d, 2, counted(3))
	flush(t, d)
	other, e := disk.Of(d.Bytes())
	if e != api.OK || !disk.Same(d, other) {
		t.Errorf("Of Bytes: %v, another one", e)
	}
}

// P2.2

func TestWriteAndRead(t *testing.T) {
	d := made(t, 4)
	x, y := counted(5), counted(6)
	write(t, d, 1, x)
	write(t, d, 3, y)
	reads(t, d, 0, sector{})
	reads(t, d, 1, x)
	reads(t, d, 2, sector{})
	reads(t, d, 3, y)
	waits(t, d, 1, 3)
	lasts(t, d, sector{}, sector{}, sector{}, sector{})
	holds(t, d, sector{}, x, sector{}, y)
}

func TestTwoWritesOfOneSector(t *testing.T) {
	d := of(t, counted(1), counted(2))
	x, y, z := counted(5), counted(6), counted(7)
	write(t, d, 1, x)
	write(t, d, 0, z)
	write(t, d, 1, y)
	reads(t, d, 1, y)
	reads(t, d, 0, z)
	waits(t, d, 1, 0, 1)
	lasts(t, d, counted(1), counted(2))
	flush(t, d)
	reads(t, d, 1, y)
	reads(t, d, 0, z)
	lasts(t, d, z, y)
	write(t, d, 1, x)
	reads(t, d, 1, x)
	lasts(t, d, z, y)
}

func TestFlush(t *testing.T) {
	d := made(t, 3)
	flush(t, d)
	lasts(t, d, sector{}, sector{}, sector{})
	write(t, d, 2, counted(1))
	write(t, d, 0, counted(2))
	flush(t, d)
	waits(t, d)
	lasts(t, d, counted(2), sector{}, counted(1))
	flush(t, d)
	lasts(t, d, counted(2), sector{}, counted(1))
	write(t, d, 2, sector{})
	lasts(t, d, counted(2), sector{}, counted(1))
	flush(t, d)
	lasts(t, d, counted(2), sector{}, sector{})
	steps(t, d, 7)
}

func TestLastSectorOfTheGreatestDisk(t *testing.T) {
	d := made(t, 4096)
	write(t, d, 4095, counted(1))
	write(t, d, 0, counted(2))
	flush(t, d)
	reads(t, d, 4095, counted(1))
	reads(t, d, 0, counted(2))
	b := d.Bytes()
	s := counted(1)
	if len(b) != 4096*sectorBytes || !bytes.Equal(b[4095*sectorBytes:], s[:]) {
		t.Error("the last sector is not in Bytes")
	}
	wants(t, "Write(4096)", d.Write(4096, sector{}), api.ErrRange)
}

func noSectors(size int) []int {
	return []int{-1, -2, size, size + 1, 4096, 1 << 32, 1<<32 + 1, math.MaxInt, math.MinInt, math.MinInt + 1}
}

func TestSectorsThatThereAreNot(t *testing.T) {
	for _, size := range []int{1, 4, 4096} {
		d := made(t, size)
		write(t, d, 0, counted(1))
		was := d.Copy()
		for _, n := range noSectors(size) {
			if s, e := d.Read(n); s != (sector{}) || e != api.ErrRange {
				t.Errorf("Read(%d) of %d sectors: %v, want ErrRange alone", n, size, e)
			}
			wants(t, "Write", d.Write(n, full('x')), api.ErrRange)
			wants(t, "Spoil", d.Spoil(n, 0, 1), api.ErrRange)
		}
		steps(t, d, 1)
		waits(t, d, 0)
		if !disk.Same(d, was) {
			t.Errorf("what is refused of %d sectors changes the disk", size)
		}
	}
}

// P2.3

func TestWaitsInTheirOrder(t *testing.T) {
	d := made(t, 5)
	waits(t, d)
	var want []int
	for _, n := range []int{4, 0, 4, 4, 2, 0, 1} {
		write(t, d, n, full(byte(n)))
		want = append(want, n)
		waits(t, d, want...)
	}
	reads(t, d, 4, full(4))
	waits(t, d, want...)
	flush(t, d)
	waits(t, d)
	write(t, d, 3, full('x'))
	waits(t, d, 3)
}

func TestSteps(t *testing.T) {
	d := made(t, 2)
	steps(t, d, 0)
	reads(t, d, 0, sector{})
	steps(t, d, 1)
	write(t, d, 0, full('x'))
	steps(t, d, 2)
	flush(t, d)
	steps(t, d, 3)
	d.Waits()
	d.Size()
	d.Bytes()
	d.Copy()
	disk.Same(d, d)
	d.Spoil(0, 0, 1)
	d.Fail(0, 1, 2)
	d.Crash(api.Crash{})
	steps(t, d, 3)
	d.Read(2)
	d.Write(-1, sector{})
	d.Spoil(0, 512, 1)
	d.Fail(-1)
	d.Crash(api.Crash{Bytes: 513})
	steps(t, d, 3)
	d.Read(0)
	d.Write(0, sector{})
	d.Flush()
	steps(t, d, 6)
	d.Flush()
	steps(t, d, 7)
}

// answers tells which of so many Reads answer ErrDisk.
func answers(t *testing.T, d *disk.Disk, count int) []int {
	t.Helper()
	var failed []int
	for i := range count {
		s, e := d.Read(0)
		switch {
		case e == api.ErrDisk && s == (sector{}):
			failed = append(failed, i)
		case e != api.OK || s != full('x'):
			t.Errorf("Read: %v, %v", s[:3], e)
		}
	}
	return failed
}

func TestFailNamesSteps(t *testing.T) {
	for _, x := range []struct{ named, fails []int }{
		{nil, nil},
		{[]int{0}, []int{0}},
		{[]int{1}, []int{1}},
		{[]int{5}, []int{5}},
		{[]int{9}, []int{9}},
		{[]int{10, 1 << 32, math.MaxInt, math.MaxInt - 1}, nil},
		{[]int{3, 0, 3, 3}, []int{0, 3}},
		{[]int{0, 1, 2, 3, 4, 5, 6, 7, 8, 9}, []int{0, 1, 2, 3, 4, 5, 6, 7, 8, 9}},
		{[]int{7, math.MaxInt, 2}, []int{2, 7}},
	} {
		for _, ahead := range []int{0, 1, 6} {
			d := of(t, full('x'), full('y'))
			answers(t, d, ahead)
			wants(t, "Fail", d.Fail(x.named...), api.OK)
			if got := answers(t, d, 10); !slices.Equal(got, x.fails) {
				t.Errorf("Fail(%v) behind %d steps: %v fail, want %v", x.named, ahead, got, x.fails)
			}
			steps(t, d, ahead+10)
		}
	}
}

func TestStepsThatFailDoNothing(t *testing.T) {
	d := of(t, full('x'), full('y'))
	write(t, d, 1, counted(1))
	was := d.Copy()
	wants(t, "Fail", d.Fail(0, 1, 2), api.OK)
	if s, e := d.Read(1); s != (sector{}) || e != api.ErrDisk {
		t.Errorf("Read that fails: %v, want ErrDisk alone", e)
	}
	wants(t, "Write", d.Write(0, counted(2)), api.ErrDisk)
	waits(t, d, 1)
	wants(t, "Flush", d.Flush(), api.ErrDisk)
	waits(t, d, 1)
	steps(t, d, 4)
	if !disk.Same(d, was) {
		t.Error("what fails changes the disk")
	}
	holds(t, d, full('x'), counted(1))
	lasts(t, d, full('x'), full('y'))
	flush(t, d)
	lasts(t, d, full('x'), counted(1))
}

func TestFailNamedAnew(t *testing.T) {
	d := of(t, full('x'), full('y'))
	d.Fail(0, 1, 2, 5)
	d.Fail(3)
	if got := answers(t, d, 8); !slices.Equal(got, []int{3}) {
		t.Errorf("named anew at once: %v fail, want 3", got)
	}
	d.Fail(2, 4, 6)
	if got := answers(t, d, 3); !slices.Equal(got, []int{2}) {
		t.Errorf("%v fail, want 2", got)
	}
	d.Fail(0, 2)
	if got := answers(t, d, 8); !slices.Equal(got, []int{0, 2}) {
		t.Errorf("named anew behind steps: %v fail, want 0 2", got)
	}
	d.Fail(1, 2)
	wants(t, "Fail of none", d.Fail(), api.OK)
	if got := answers(t, d, 8); got != nil {
		t.Errorf("none is named: %v fail", got)
	}
}

func TestFailRefuses(t *testing.T) {
	d := of(t, full('x'))
	d.Fail(1, 4)
	for _, l := range [][]int{{-1}, {0, -1}, {-1, 0}, {0, 2, 3, math.MinInt}, {-math.MaxInt}} {
		wants(t, "Fail below 0", d.Fail(l...), api.ErrArg)
	}
	if got := answers(t, d, 3); !slices.Equal(got, []int{1}) {
		t.Errorf("behind a Fail that was refused %v fail, want 1", got)
	}
	wants(t, "Fail below 0", d.Fail(0, -1), api.ErrArg)
	if got := answers(t, d, 5); !slices.Equal(got, []int{1}) {
		t.Errorf("behind a Fail that was refused, three steps on, %v fail, want 1", got)
	}
}

// A call that is refused is no step, so it takes no number of those that fail.
func TestRefusalsAreNoStepsThatFail(t *testing.T) {
	d := of(t, full('x'))
	d.Fail(0)
	if _, e := d.Read(1); e != api.ErrRange {
		t.Errorf("Read(1): %v, want ErrRange ahead of ErrDisk", e)
	}
	wants(t, "Write(-1)", d.Write(-1, sector{}), api.ErrRange)
	steps(t, d, 0)
	if got := answers(t, d, 3); !slices.Equal(got, []int{0}) {
		t.Errorf("%v fail, want 0", got)
	}
}

// P2.4

func TestSpoil(t *testing.T) {
	for _, at := range []int{0, 1, 255, 256, 511} {
		for _, bits := range []byte{0, 1, 0x80, 0x5a, 0xff} {
			a, b, x, y := counted(1), counted(2), counted(3), counted(4)
			d := of(t, a, b)
			write(t, d, 0, x)
			write(t, d, 1, x)
			write(t, d, 0, y)
			wants(t, "Spoil", d.Spoil(0, at, bits), api.OK)
			steps(t, d, 3)
			waits(t, d, 0, 1, 0)
			a[at] ^= bits
			y[at] ^= bits
			spoilt := x
			spoilt[at] ^= bits
			holds(t, d, y, x)
			lasts(t, d, a, b)
			holds(t, crash(t, d, api.Crash{Keep: []bool{true}, Torn: -1}), spoilt, b)
			holds(t, crash(t, d, api.Crash{Keep: []bool{false, true, true}, Torn: -1}), y, x)
			reads(t, d, 0, y)
			reads(t, d, 1, x)
			flush(t, d)
			lasts(t, d, y, x)
		}
	}
}

func TestSpoilOfNoughts(t *testing.T) {
	d := made(t, 3)
	wants(t, "Spoil", d.Spoil(1, 2, 3), api.OK)
	want := sector{2: 3}
	holds(t, d, sector{}, want, sector{})
	lasts(t, d, sector{}, want, sector{})
	if disk.Same(d, made(t, 3)) || disk.Same(made(t, 3), d) {
		t.Error("a spoilt one is the same")
	}
	wants(t, "Spoil", d.Spoil(1, 2, 3), api.OK)
	if !disk.Same(d, made(t, 3)) {
		t.Error("spoilt twice, it is another one")
	}
	waits(t, d)
	steps(t, d, 0)
}

// What is written behind it is as it was written: a sector is spoilt once, not for ever.
func TestWriteBehindSpoil(t *testing.T) {
	d := of(t, counted(1))
	d.Spoil(0, 7, 0xff)
	write(t, d, 0, counted(2))
	reads(t, d, 0, counted(2))
	flush(t, d)
	lasts(t, d, counted(2))
}

func TestSpoilIsNoStepThatFails(t *testing.T) {
	d := of(t, full('x'))
	d.Fail(0)
	wants(t, "Spoil", d.Spoil(0, 0, 0), api.OK)
	if got := answers(t, d, 2); !slices.Equal(got, []int{0}) {
		t.Errorf("%v fail, want 0", got)
	}
}

func TestSpoilRefuses(t *testing.T) {
	d := of(t, counted(1), counted(2))
	write(t, d, 0, counted(3))
	was := d.Copy()
	for _, at := range []int{-1, 512, 513, 1023, 1024, 1 << 32, math.MaxInt, math.MinInt} {
		wants(t, "Spoil of no byte", d.Spoil(0, at, 0xff), api.ErrRange)
		wants(t, "Spoil of no sector's no byte", d.Spoil(2, at, 0xff), api.ErrRange)
	}
	for _, n := range noSectors(2) {
		wants(t, "Spoil of no sector", d.Spoil(n, 0, 0xff), api.ErrRange)
	}
	if !disk.Same(d, was) {
		t.Error("what is refused spoils")
	}
	steps(t, d, 1)
}

func TestCrashKeeps(t *testing.T) {
	a, b, c := counted(1), counted(2), counted(3)
	x, y, z := counted(4), counted(5), counted(6)
	d := of(t, a, b, c)
	write(t, d, 0, x)
	write(t, d, 2, y)
	write(t, d, 0, z)
	for _, q := range []struct {
		keep []bool
		want [3]sector
	}{
		{nil, [3]sector{a, b, c}},
		{[]bool{}, [3]sector{a, b, c}},
		{[]bool{false, false, false}, [3]sector{a, b, c}},
		{[]bool{true}, [3]sector{x, b, c}},
		{[]bool{false, true}, [3]sector{a, b, y}},
		{[]bool{true, true}, [3]sector{x, b, y}},
		{[]bool{false, false, true}, [3]sector{z, b, c}},
		{[]bool{true, false, true}, [3]sector{z, b, c}},
		{[]bool{false, true, true}, [3]sector{z, b, y}},
		{[]bool{true, true, true}, [3]sector{z, b, y}},
		{[]bool{true, true, true, true, false, true}, [3]sector{z, b, y}},
		{[]bool{false, false, false, true, true, true}, [3]sector{a, b, c}},
	} {
		for _, none := range []int{-1, 3, 4, 1 << 32, math.MinInt, math.MaxInt} {
			for _, count := range []int{0, 1, 512} {
				left := crash(t, d, api.Crash{Keep: q.keep, Torn: none, Bytes: count})
				holds(t, left, q.want[:]...)
				lasts(t, left, q.want[:]...)
			}
		}
	}
	holds(t, d, z, b, y)
	waits(t, d, 0, 2, 0)
}

func TestCrashTears(t *testing.T) {
	a, b, x, y := counted(1), counted(2), counted(3), counted(4)
	d := of(t, a, b)
	write(t, d, 1, x)
	write(t, d, 1, y)
	for _, count := range []int{0, 1, 2, 255, 256, 511, 512} {
		for _, whatever := range []bool{false, true} {
			first := api.Crash{Keep: []bool{whatever}, Torn: 0, Bytes: count}
			holds(t, crash(t, d, first), a, torn(b, x, count))
			first.Keep = []bool{whatever, true}
			holds(t, crash(t, d, first), a, y)
			second := api.Crash{Keep: []bool{false, whatever}, Torn: 1, Bytes: count}
			holds(t, crash(t, d, second), a, torn(b, y, count))
			second.Keep = []bool{true, whatever}
			holds(t, crash(t, d, second), a, torn(x, y, count))
		}
		holds(t, crash(t, d, api.Crash{Torn: 1, Bytes: count}), a, torn(b, y, count))
		holds(t, crash(t, d, api.Crash{Torn: 0, Bytes: count}), a, torn(b, x, count))
	}
}

func TestCrashRefuses(t *testing.T) {
	d := of(t, counted(1))
	for range 2 {
		for _, count := range []int{-1, -2, 513, 514, 1024, 1 << 32, 1<<32 + 1, math.MaxInt, math.MinInt} {
			for _, number := range []int{0, -1, 5} {
				left, e := d.Crash(api.Crash{Keep: []bool{true}, Torn: number, Bytes: count})
				if left != nil || e != api.ErrArg {
					t.Errorf("Crash torn %d at %d: %v, %v, want ErrArg alone", number, count, left, e)
				}
			}
		}
		write(t, d, 0, counted(2)) // the second time something waits
	}
}

func TestWhatACrashLeavesIsNew(t *testing.T) {
	d := of(t, full('x'), counted(2))
	write(t, d, 1, counted(3))
	d.Fail(0, 1, 2)
	left := crash(t, d, api.Crash{Keep: []bool{true}, Torn: -1})
	if left.Size() != 2 {
		t.Errorf("Size = %d", left.Size())
	}
	waits(t, left)
	steps(t, left, 0)
	if got := answers(t, left, 5); got != nil {
		t.Errorf("behind a crash %v fail", got)
	}
	if got := answers(t, d, 5); !slices.Equal(got, []int{0, 1, 2}) {
		t.Errorf("of the one that crashed %v fail, want 0 1 2", got)
	}
	steps(t, d, 6)
}

func TestBothGoOnBehindACrash(t *testing.T) {
	d := of(t, counted(1), counted(2), counted(3))
	write(t, d, 0, counted(4))
	left := crash(t, d, api.Crash{Torn: -1})
	write(t, d, 1, counted(5))
	flush(t, d)
	d.Spoil(2, 0, 1)
	holds(t, left, counted(1), counted(2), counted(3))
	lasts(t, left, counted(1), counted(2), counted(3))
	write(t, left, 2, counted(6))
	left.Spoil(0, 511, 1)
	flush(t, left)
	spoilt := counted(3)
	spoilt[0] ^= 1
	holds(t, d, counted(4), counted(5), spoilt)
	lasts(t, d, counted(4), counted(5), spoilt)
	steps(t, left, 2)
	steps(t, d, 3)
}

// P2.5

func TestCopyStandsAlike(t *testing.T) {
	d := of(t, full('x'), counted(2))
	write(t, d, 1, counted(3))
	write(t, d, 1, counted(4))
	d.Fail(1, 3, 6)
	answers(t, d, 2)
	other := d.Copy()
	if other.Size() != 2 || !disk.Same(d, other) {
		t.Error("a copy is another one")
	}
	steps(t, other, 4)
	waits(t, other, 1, 1)
	holds(t, other, full('x'), counted(4))
	lasts(t, other, full('x'), counted(2))
	for _, one := range []*disk.Disk{d, other} {
		if got := answers(t, one, 6); !slices.Equal(got, []int{1, 4}) {
			t.Errorf("%v fail, want 1 4", got)
		}
	}
}

func TestCopyGoesOnApart(t *testing.T) {
	for _, swap := range []bool{false, true} {
		d := of(t, full('x'), counted(2))
		write(t, d, 1, counted(3))
		write(t, d, 1, counted(4))
		write(t, d, 1, counted(3)) // so that a list of writes has room for one more behind
		d.Fail(2)
		one, other := d, d.Copy()
		if swap {
			one, other = other, one
		}
		was := other.Copy()
		write(t, one, 1, counted(6))
		write(t, other, 1, counted(7))
		write(t, was, 1, counted(7))
		reads(t, one, 1, counted(6))
		reads(t, other, 1, counted(7))
		one.Spoil(0, 0, 1)
		one.Spoil(1, 0, 1)
		if !disk.Same(other, was) || disk.Same(one, other) {
			t.Error("what one spoils the other one has")
		}
		wants(t, "Flush that fails", one.Flush(), api.ErrDisk)
		flush(t, one)
		if !disk.Same(other, was) {
			t.Error("what one flushes the other one has")
		}
		one.Fail(0, 1, 2)
		steps(t, one, 7)
		steps(t, other, 5)
		if got := answers(t, other, 3); !slices.Equal(got, []int{0}) {
			t.Errorf("of the other one %v fail, want 0", got)
		}
		waits(t, one)
		waits(t, other, 1, 1, 1, 1)
	}
}

func TestSame(t *testing.T) {
	d := of(t, counted(1), counted(2))
	alike := func(what string, other *disk.Disk, want bool) {
		t.Helper()
		if disk.Same(d, other) != want || disk.Same(other, d) != want {
			t.Errorf("%s: Same is not %v", what, want)
		}
	}
	alike("itself", d, true)
	alike("nil", nil, false)
	alike("a zero one", &disk.Disk{}, false)
	alike("the same bytes", of(t, counted(1), counted(2)), true)
	alike("fewer sectors", of(t, counted(1)), false)
	alike("more sectors", of(t, counted(1), counted(2), sector{}), false)
	alike("other bytes", of(t, counted(1), counted(3)), false)
	alike("other order", of(t, counted(2), counted(1)), false)
	for _, at := range []int{0, 511} {
		other := d.Copy()
		other.Spoil(1, at, 1)
		alike("a bit of another one", other, false)
	}
	other := d.Copy()
	other.Fail(0, 5)
	alike("steps that fail", other, true)
	other.Read(0)
	alike("more steps", other, true)
}

func TestSameAsksWhatWaits(t *testing.T) {
	wait := func(l ...int) *disk.Disk {
		d := made(t, 3)
		for _, n := range l {
			write(t, d, n/10, full(byte(n%10)))
		}
		return d
	}
	lists := [][]int{nil, {1}, {2}, {11}, {0}, {1, 1}, {1, 2}, {2, 1}, {11, 1}, {1, 11}, {1, 1, 1}}
	for i, a := range lists {
		for j, b := range lists {
			if got := disk.Same(wait(a...), wait(b...)); got != (i == j) {
				t.Errorf("Same, where %v and %v wait: %v", a, b, got)
			}
		}
	}
	one, other := wait(1), wait(1)
	flush(t, one)
	if disk.Same(one, other) {
		t.Error("what waits is the same as what lasts")
	}
	flush(t, other)
	if !disk.Same(one, other) {
		t.Error("flushed alike they are not the same")
	}
}

// Noughts that were written are the same as noughts that have always been there.
func TestSameNoughts(t *testing.T) {
	d := made(t, 2)
	write(t, d, 1, full('x'))
	flush(t, d)
	write(t, d, 1, sector{})
	flush(t, d)
	if !disk.Same(d, made(t, 2)) || !disk.Same(made(t, 2), d) || !disk.Same(d, of(t, sector{}, sector{})) {
		t.Error("noughts are not the same as noughts")
	}
}

func TestNoDisk(t *testing.T) {
	for _, d := range []*disk.Disk{nil, {}, new(disk.Disk)} {
		if d.Size() != 0 || d.Steps() != 0 || d.Waits() != nil || d.Bytes() != nil || d.Copy() != nil {
			t.Error("no disk tells something")
		}
		for _, n := range []int{0, -1, math.MaxInt} {
			if s, e := d.Read(n); s != (sector{}) || e != api.ErrNil {
				t.Errorf("Read of no disk: %v, want ErrNil alone", e)
			}
			wants(t, "Write of no disk", d.Write(n, full('x')), api.ErrNil)
			wants(t, "Spoil of no disk", d.Spoil(n, -1, 1), api.ErrNil)
			wants(t, "Spoil of no disk", d.Spoil(n, 0, 1), api.ErrNil)
			wants(t, "Fail of no disk", d.Fail(n), api.ErrNil)
			if left, e := d.Crash(api.Crash{Torn: n, Bytes: n}); left != nil || e != api.ErrNil {
				t.Errorf("Crash of no disk: %v, %v, want ErrNil alone", left, e)
			}
		}
		wants(t, "Fail of no disk", d.Fail(), api.ErrNil)
		wants(t, "Flush of no disk", d.Flush(), api.ErrNil)
		if d.Size() != 0 || d.Steps() != 0 || d.Waits() != nil || d.Bytes() != nil {
			t.Error("behind calls no disk tells something")
		}
		if !disk.Same(d, nil) || !disk.Same(nil, d) || !disk.Same(d, d) {
			t.Error("no disk is not like none")
		}
		if disk.Same(d, made(t, 1)) || disk.Same(made(t, 1), d) {
			t.Error("no disk is like one")
		}
	}
}

// P2.6

func keeps(count, bits int) []bool {
	l := make([]bool, count)
	for i := range l {
		l[i] = bits>>i&1 == 1
	}
	return l
}

func TestEachCrashBehindAFlush(t *testing.T) {
	d := of(t, counted(1), counted(2))
	write(t, d, 0, counted(3))
	write(t, d, 1, counted(4))
	write(t, d, 0, counted(5))
	flush(t, d)
	for bits := range 16 {
		for number := -1; number < 5; number++ {
			for _, count := range []int{0, 1, 511, 512} {
				left := crash(t, d, api.Crash{Keep: keeps(4, bits), Torn: number, Bytes: count})
				holds(t, left, counted(5), counted(4))
			}
		}
	}
}

func TestCrashThatKeepsAll(t *testing.T) {
	d := of(t, counted(1), counted(2), counted(3))
	for i, n := range []int{0, 2, 0, 0, 2} {
		write(t, d, n, counted(byte(10+i)))
		left := crash(t, d, api.Crash{Keep: keeps(i+1, -1), Torn: -1})
		if !bytes.Equal(left.Bytes(), d.Bytes()) {
			t.Errorf("behind %d writes a crash that keeps all leaves other bytes than are read", i+1)
		}
	}
}

// Each byte behind a crash is what lasted there, or what some write of the sector has there: these have all other bytes, so each tells where it is from.
func TestEachByteBehindACrash(t *testing.T) {
	d := of(t, full(1), full(2))
	write(t, d, 0, full(3))
	write(t, d, 1, full(4))
	write(t, d, 0, full(5))
	may := []string{"\x01\x03\x05", "\x02\x04"}
	for bits := range 8 {
		for number := -1; number < 4; number++ {
			for _, count := range []int{0, 1, 300, 511, 512} {
				left := crash(t, d, api.Crash{Keep: keeps(3, bits), Torn: number, Bytes: count})
				for i, b := range left.Bytes() {
					if !bytes.Contains([]byte(may[i/sectorBytes]), []byte{b}) {
						t.Fatalf("byte %d of sector %d is %d", i%sectorBytes, i/sectorBytes, b)
					}
				}
			}
		}
	}
}

// Memory

func TestOfKeepsNothing(t *testing.T) {
	want := []sector{counted(1), counted(2)}
	all := append(row(want...), bytes.Repeat([]byte{0xa5}, sectorBytes)...)
	was := bytes.Clone(all)
	given := all[:2*sectorBytes]
	d, _ := disk.Of(given)
	write(t, d, 1, counted(3))
	d.Spoil(0, 0, 1)
	flush(t, d)
	if !bytes.Equal(all, was) {
		t.Error("what was handed to Of is changed")
	}
	d, _ = disk.Of(given)
	clear(all)
	holds(t, d, want...)
}

func TestFailKeepsNothing(t *testing.T) {
	d := of(t, full('x'))
	all := []int{1, 3, 0, 0}
	named := all[:2]
	d.Fail(named...)
	if !slices.Equal(all, []int{1, 3, 0, 0}) {
		t.Error("what was handed to Fail is changed")
	}
	clear(all)
	if got := answers(t, d, 5); !slices.Equal(got, []int{1, 3}) {
		t.Errorf("%v fail, want 1 3", got)
	}
}

func TestCrashKeepsNothing(t *testing.T) {
	d := of(t, counted(1))
	write(t, d, 0, counted(2))
	write(t, d, 0, counted(3))
	all := []bool{true, false, true, false}
	left := crash(t, d, api.Crash{Keep: all[:1], Torn: -1})
	if !slices.Equal(all, []bool{true, false, true, false}) {
		t.Error("what was handed to Crash is changed")
	}
	clear(all)
	holds(t, left, counted(2))
}

func TestAnswersAreNewMemory(t *testing.T) {
	d := of(t, counted(1), counted(2))
	write(t, d, 1, counted(3))
	write(t, d, 0, counted(4))
	write(t, d, 1, counted(5))
	b, other := d.Bytes(), d.Bytes()
	clear(b[:cap(b)])
	if !bytes.Equal(other, row(counted(4), counted(5))) {
		t.Error("two answers of Bytes share memory")
	}
	holds(t, d, counted(4), counted(5))
	lasts(t, d, counted(1), counted(2))
	l, m := d.Waits(), d.Waits()
	clear(l[:cap(l)])
	if !slices.Equal(m, []int{1, 0, 1}) {
		t.Error("two answers of Waits share memory")
	}
	waits(t, d, 1, 0, 1)
	was := d.Waits()
	flush(t, d)
	write(t, d, 0, counted(6))
	if !slices.Equal(was, []int{1, 0, 1}) {
		t.Error("an answer of Waits goes on with the disk")
	}
	if !bytes.Equal(other, row(counted(4), counted(5))) {
		t.Error("an answer of Bytes goes on with the disk")
	}
}

// The whole, held against a plain one

// plain is the document's words laid down plainly: whole rows of bytes, and lists.
type plain struct {
	lasting []sector
	sectors []int
	writes  []sector
	steps   int
	failing []int // by the numbers of all steps
}

func (p *plain) refused(n int) bool { return n < 0 || n >= len(p.lasting) }

func (p *plain) step() bool {
	p.steps++
	return !slices.Contains(p.failing, p.steps-1)
}

func (p *plain) read() []sector {
	l := slices.Clone(p.lasting)
	for i, n := range p.sectors {
		l[n] = p.writes[i]
	}
	return l
}

func (p *plain) crash(c api.Crash) []sector {
	l := slices.Clone(p.lasting)
	for i, n := range p.sectors {
		if i == c.Torn {
			l[n] = torn(l[n], p.writes[i], c.Bytes)
		} else if i < len(c.Keep) && c.Keep[i] {
			l[n] = p.writes[i]
		}
	}
	return l
}

// lot tells numbers that look drawn by lot, the same ones each time.
type lot uint32

func (l *lot) next(count int) int {
	*l = *l*1664525 + 1013904223
	return int(*l>>16) % count
}

func (l *lot) crash() api.Crash {
	return api.Crash{Keep: keeps(l.next(7), l.next(64)), Torn: l.next(7) - 1, Bytes: l.next(513)}
}

func bothRead(t *testing.T, d *disk.Disk, p *plain, n int) {
	t.Helper()
	var want sector
	e := api.ErrRange
	if !p.refused(n) {
		e = api.ErrDisk
		if p.step() {
			want, e = p.read()[n], api.OK
		}
	}
	if got, f := d.Read(n); got != want || f != e {
		t.Fatalf("Read(%d): %v, want %v", n, f, e)
	}
}

func bothWrite(t *testing.T, d *disk.Disk, p *plain, n int, s sector) {
	t.Helper()
	e := api.ErrRange
	if !p.refused(n) {
		e = api.ErrDisk
		if p.step() {
			p.sectors, p.writes, e = append(p.sectors, n), append(p.writes, s), api.OK
		}
	}
	if f := d.Write(n, s); f != e {
		t.Fatalf("Write(%d): %v, want %v", n, f, e)
	}
}

func bothFlush(t *testing.T, d *disk.Disk, p *plain) {
	t.Helper()
	e := api.ErrDisk
	if p.step() {
		p.lasting, p.sectors, p.writes, e = p.read(), nil, nil, api.OK
	}
	if f := d.Flush(); f != e {
		t.Fatalf("Flush: %v, want %v", f, e)
	}
}

func bothSpoil(t *testing.T, d *disk.Disk, p *plain, n, at int, bits byte) {
	t.Helper()
	e := api.ErrRange
	if !p.refused(n) && at < sectorBytes {
		e = api.OK
		p.lasting[n][at] ^= bits
		for i := range p.writes {
			if p.sectors[i] == n {
				p.writes[i][at] ^= bits
			}
		}
	}
	if f := d.Spoil(n, at, bits); f != e {
		t.Fatalf("Spoil(%d, %d): %v, want %v", n, at, f, e)
	}
}

func bothFail(t *testing.T, d *disk.Disk, p *plain, l ...int) {
	t.Helper()
	e := api.ErrArg
	if slices.Index(l, -1) < 0 {
		p.failing, e = nil, api.OK
		for _, n := range l {
			p.failing = append(p.failing, p.steps+n)
		}
	}
	if f := d.Fail(l...); f != e {
		t.Fatalf("Fail(%v): %v, want %v", l, f, e)
	}
}

func bothStand(t *testing.T, d *disk.Disk, p *plain) {
	t.Helper()
	if !bytes.Equal(d.Bytes(), row(p.read()...)) || !slices.Equal(d.Waits(), p.sectors) || d.Steps() != p.steps || d.Size() != len(p.lasting) {
		t.Fatal("the disk stands otherwise than the plain one")
	}
}

func TestTheWholeIsAsAPlainOne(t *testing.T) {
	for seed := range lot(60) {
		draw := seed
		size := 1 + draw.next(5)
		d, p := made(t, size), &plain{lasting: make([]sector, size)}
		for range 150 {
			n := draw.next(size+2) - 1
			switch draw.next(12) {
			case 0, 1:
				bothRead(t, d, p, n)
			case 2, 3, 4, 5:
				bothWrite(t, d, p, n, counted(byte(draw.next(256))))
			case 6:
				bothFlush(t, d, p)
			case 7:
				bothSpoil(t, d, p, n, draw.next(514), byte(draw.next(256)))
			case 8:
				bothFail(t, d, p, draw.next(8)-1, draw.next(4))
			case 9:
				c := draw.crash()
				holds(t, crash(t, d, c), p.crash(c)...)
			case 10:
				d = d.Copy()
			default:
				if draw.next(4) == 0 {
					c := draw.crash()
					d, p = crash(t, d, c), &plain{lasting: p.crash(c)}
				}
			}
			bothStand(t, d, p)
		}
	}
}
