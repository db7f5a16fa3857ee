package sums_test

import (
	"bytes"
	"hash/crc32"
	"math"
	"strconv"
	"testing"

	"chatelaine/api"
	"chatelaine/sums"
)

// slowSum is the document's own words, bit by bit, so that the half bytes are held against them and not against themselves.
func slowSum(b []byte) uint32 {
	sum := uint32(math.MaxUint32)
	for _, x := range b {
		sum ^= uint32(x)
		for range 8 {
			if sum&1 == 1 {
				sum = sum>>1 ^ 0xedb88320
			} else {
				sum >>= 1
			}
		}
	}
	return ^sum
}

// drawn tells bytes that look drawn by lot, the same ones each time.
func drawn(count int, seed uint32) []byte {
	b := make([]byte, count)
	for i := range b {
		seed = seed*1664525 + 1013904223
		b[i] = byte(seed >> 24)
	}
	return b
}

// samples tells bytes of many lengths: none, noughts alone, all bits set, and drawn ones.
func samples() [][]byte {
	list := [][]byte{nil, {}, {0}, {255}, {0, 0}, []byte("a"), []byte("123456789"), make([]byte, 508), bytes.Repeat([]byte{255}, 512)}
	for size := range 40 {
		list = append(list, drawn(size, uint32(size)))
	}
	return append(list, drawn(1000, 7), drawn(1<<16+3, 8))
}

func TestCrcKnown(t *testing.T) {
	for _, x := range []struct {
		text string
		want uint32
	}{
		{"", 0},
		{"\x00", 0xd202ef8d},
		{"\xff", 0xff000000},
		{"a", 0xe8b7be43},
		{"abc", 0x352441c2},
		{"123456789", 0xcbf43926},
		{"The quick brown fox jumps over the lazy dog", 0x414fa339},
		{string(make([]byte, 32)), 0x190a55ad},
		{string(bytes.Repeat([]byte{255}, 32)), 0xff6cab0b},
	} {
		if got := sums.Crc([]byte(x.text)); got != x.want {
			t.Errorf("Crc(%q) = %08x, want %08x", x.text, got, x.want)
		}
	}
	if sums.Crc(nil) != 0 || sums.Crc([]byte{}) != 0 {
		t.Error("Crc of no bytes")
	}
}

func TestCrcIsTheSumOfTheDocument(t *testing.T) {
	check := func(b []byte) {
		t.Helper()
		got := sums.Crc(b)
		if want := slowSum(b); got != want {
			t.Fatalf("Crc of %d bytes = %08x, want %08x", len(b), got, want)
		}
		if want := crc32.ChecksumIEEE(b); got != want {
			t.Fatalf("Crc of %d bytes = %08x, as in zip it is %08x", len(b), got, want)
		}
	}
	for _, b := range samples() {
		check(b)
	}
	for i := range 1 << 16 {
		check([]byte{byte(i)})
		check([]byte{byte(i), byte(i >> 8)})
	}
	check(drawn(1<<20, 9))
}

func TestUpdate(t *testing.T) {
	for _, b := range samples() {
		if len(b) > 600 {
			continue
		}
		want := slowSum(b)
		if got := sums.Update(0, b); got != want {
			t.Errorf("Update(0, %d bytes) = %08x, want %08x", len(b), got, want)
		}
		for cut := range len(b) + 1 {
			if got := sums.Update(sums.Crc(b[:cut]), b[cut:]); got != want {
				t.Fatalf("Update of %d bytes, cut at %d = %08x, want %08x", len(b), cut, got, want)
			}
		}
	}
}

func TestUpdateByParts(t *testing.T) {
	b := drawn(3000, 10)
	sum := sums.Crc(nil)
	for i := range b {
		sum = sums.Update(sum, b[i:i+1])
		sum = sums.Update(sum, nil)
	}
	if want := slowSum(b); sum != want {
		t.Errorf("byte by byte %08x, want %08x", sum, want)
	}
}

// Every number of 32 bits is the sum of some bytes, so Update goes on from each.
func TestUpdateOfAnySum(t *testing.T) {
	for _, sum := range []uint32{0, 1, 0x80000000, 0x7fffffff, 0xedb88320, 0xfffffffe, math.MaxUint32} {
		if got := sums.Update(sum, nil); got != sum {
			t.Errorf("Update(%08x, no bytes) = %08x", sum, got)
		}
		if got := sums.Update(sum, []byte{}); got != sum {
			t.Errorf("Update(%08x, no bytes) = %08x", sum, got)
		}
		b := drawn(77, sum)
		if got, want := sums.Update(sum, b), crc32.Update(sum, crc32.IEEETable, b); got != want {
			t.Errorf("Update(%08x, ..) = %08x, want %08x", sum, got, want)
		}
	}
}

func TestPut(t *testing.T) {
	for _, x := range []struct {
		n     int64
		count int
		want  string
	}{
		{0, 2, "\x00\x00"},
		{0, 4, "\x00\x00\x00\x00"},
		{0, 8, "\x00\x00\x00\x00\x00\x00\x00\x00"},
		{1, 2, "\x01\x00"},
		{258, 2, "\x02\x01"},
		{258, 4, "\x02\x01\x00\x00"},
		{258, 8, "\x02\x01\x00\x00\x00\x00\x00\x00"},
		{math.MaxUint16, 2, "\xff\xff"},
		{math.MaxUint16 + 1, 4, "\x00\x00\x01\x00"},
		{0x04030201, 4, "\x01\x02\x03\x04"},
		{math.MaxUint32, 4, "\xff\xff\xff\xff"},
		{math.MaxUint32 + 1, 8, "\x00\x00\x00\x00\x01\x00\x00\x00"},
		{0x0807060504030201, 8, "\x01\x02\x03\x04\x05\x06\x07\x08"},
		{math.MaxInt64, 8, "\xff\xff\xff\xff\xff\xff\xff\x7f"},
	} {
		if b, e := sums.Put(x.n, x.count); string(b) != x.want || e != api.OK {
			t.Errorf("Put(%d, %d) = % x, %v", x.n, x.count, b, e)
		}
	}
}

func refusedPut(t *testing.T, n int64, count int) {
	t.Helper()
	if b, e := sums.Put(n, count); b != nil || e != api.ErrArg {
		t.Errorf("Put(%d, %d) = % x, %v, want ErrArg alone", n, count, b, e)
	}
}

func TestPutRefuses(t *testing.T) {
	for _, count := range []int{math.MinInt, -8, -4, -2, -1, 0, 1, 3, 5, 6, 7, 9, 10, 12, 16, 32, 64, 1 << 31, math.MaxInt} {
		for _, n := range []int64{math.MinInt64, -1, 0, 1, 255, math.MaxInt64} {
			refusedPut(t, n, count)
		}
	}
	for _, count := range []int{2, 4, 8} {
		for _, n := range []int64{-1, -2, -256, -65536, math.MinInt32, math.MinInt64, math.MinInt64 + 1} {
			refusedPut(t, n, count)
		}
	}
	for _, n := range []int64{math.MaxUint16 + 1, math.MaxUint16 + 2, math.MaxUint32, 1 << 32, 1 << 48, math.MaxInt64} {
		refusedPut(t, n, 2)
	}
	for _, n := range []int64{math.MaxUint32 + 1, math.MaxUint32 + 2, 1 << 48, math.MaxInt64} {
		refusedPut(t, n, 4)
	}
}

func TestGet(t *testing.T) {
	for _, x := range []struct {
		text string
		want int64
	}{
		{"\x00\x00", 0},
		{"\x02\x01", 258},
		{"\xff\xff", math.MaxUint16},
		{"\x00\x80", 1 << 15},
		{"\x00\x00\x00\x00", 0},
		{"\x01\x02\x03\x04", 0x04030201},
		{"\x00\x00\x00\x80", 1 << 31},
		{"\xff\xff\xff\xff", math.MaxUint32},
		{"\x00\x00\x00\x00\x00\x00\x00\x00", 0},
		{"\x01\x02\x03\x04\x05\x06\x07\x08", 0x0807060504030201},
		{"\x00\x00\x00\x00\x00\x00\x00\x40", 1 << 62},
		{"\xff\xff\xff\xff\xff\xff\xff\x7f", math.MaxInt64},
	} {
		if n, e := sums.Get([]byte(x.text)); n != x.want || e != api.OK {
			t.Errorf("Get(% x) = %d, %v, want %d", x.text, n, e, x.want)
		}
	}
}

func refusedGet(t *testing.T, b []byte) {
	t.Helper()
	if n, e := sums.Get(b); n != 0 || e != api.ErrArg {
		t.Errorf("Get of %d bytes = %d, %v, want ErrArg alone", len(b), n, e)
	}
}

func TestGetRefuses(t *testing.T) {
	refusedGet(t, nil)
	for count := range 100 {
		if count != 2 && count != 4 && count != 8 {
			refusedGet(t, make([]byte, count))
			refusedGet(t, bytes.Repeat([]byte{255}, count))
		}
	}
	refusedGet(t, make([]byte, 1<<20))
	refusedGet(t, []byte("\x00\x00\x00\x00\x00\x00\x00\x80"))
	refusedGet(t, []byte("\x01\x00\x00\x00\x00\x00\x00\x80"))
	refusedGet(t, []byte("\xff\xff\xff\xff\xff\xff\xff\xff"))
	refusedGet(t, make([]byte, 3, 8))
}

func TestSeal(t *testing.T) {
	for _, x := range []struct{ text, want string }{
		{"", "\x00\x00\x00\x00"},
		{"a", "a\x43\xbe\xb7\xe8"},
		{"123456789", "123456789\x26\x39\xf4\xcb"},
	} {
		if got := sums.Seal([]byte(x.text)); string(got) != x.want {
			t.Errorf("Seal(%q) = % x, want % x", x.text, got, x.want)
		}
	}
	for _, b := range samples() {
		sum := slowSum(b)
		want := append(bytes.Clone(b), byte(sum), byte(sum>>8), byte(sum>>16), byte(sum>>24))
		if got := sums.Seal(b); !bytes.Equal(got, want) {
			t.Errorf("Seal of %d bytes ends % x, want % x", len(b), got[len(got)-4:], want[len(want)-4:])
		}
	}
}

func TestSealed(t *testing.T) {
	for _, text := range []string{"", "a", "abc", "abcd", "123456789", "\x00", "\x00\x00\x00\x00"} {
		sum := slowSum([]byte(text))
		sealed := []byte(text + string([]byte{byte(sum), byte(sum >> 8), byte(sum >> 16), byte(sum >> 24)}))
		if b, ok := sums.Sealed(sealed); string(b) != text || !ok {
			t.Errorf("Sealed(% x) = % x, %v", sealed, b, ok)
		}
	}
}

func refusedSealed(t *testing.T, b []byte) {
	t.Helper()
	if got, ok := sums.Sealed(b); got != nil || ok {
		t.Errorf("Sealed(% x) = % x, %v, want false alone", b, got, ok)
	}
}

func TestSealedRefuses(t *testing.T) {
	for _, text := range []string{
		"", "\x00", "\x00\x00", "\x00\x00\x00", "a", "abc", // fewer than four
		"\x00\x00\x00\x01", "\x01\x00\x00\x00", "\xff\xff\xff\xff", "abcd",
		"\x00\x00\x00\x00\x00", "a\x00\x00\x00\x00",
		"123456789\xcb\xf4\x39\x26",     // the sum's highest byte ahead
		"\x26\x39\xf4\xcb123456789",     // the sum ahead of the bytes
		"123456789\xd9\xc6\x0b\x34",     // the sum, its bits not turned in the end
		"123456789\x26\x39\xf4\xcb\x00", // a byte more
		"123456789\x26\x39\xf4",         // a byte less
		"123456798\x26\x39\xf4\xcb",
	} {
		refusedSealed(t, []byte(text))
	}
	refusedSealed(t, nil)
	refusedSealed(t, make([]byte, 3, 16))
	refusedSealed(t, make([]byte, 512))
}

func TestNumbersThereAndBack(t *testing.T) {
	for _, count := range []int{2, 4, 8} {
		for shift := range min(8*count, 63) {
			for _, n := range []int64{1 << shift, 1<<shift - 1, 1<<shift | 1} {
				b, e := sums.Put(n, count)
				if len(b) != count || e != api.OK {
					t.Fatalf("Put(%d, %d) = % x, %v", n, count, b, e)
				}
				if got, e := sums.Get(b); got != n || e != api.OK {
					t.Errorf("Get of Put(%d, %d) = %d, %v", n, count, got, e)
				}
			}
		}
		for seed := range uint32(500) {
			b := drawn(count, seed)
			if count == 8 {
				b[7] &= 127
			}
			n, e := sums.Get(b)
			if e != api.OK {
				t.Fatalf("Get(% x): %v", b, e)
			}
			if got, e := sums.Put(n, count); !bytes.Equal(got, b) || e != api.OK {
				t.Errorf("Put of Get(% x) = % x, %v", b, got, e)
			}
		}
	}
	for n := range int64(1 << 16) {
		b, _ := sums.Put(n, 2)
		if got, e := sums.Get(b); got != n || e != api.OK {
			t.Fatalf("Get of Put(%d, 2) = %d, %v", n, got, e)
		}
	}
}

func TestSealedOfSeal(t *testing.T) {
	for _, b := range samples() {
		if got, ok := sums.Sealed(sums.Seal(b)); !bytes.Equal(got, b) || !ok {
			t.Errorf("Sealed of Seal of %d bytes: %d bytes, %v", len(b), len(got), ok)
		}
		if got, ok := sums.Sealed(sums.Seal(sums.Seal(b))); !bytes.Equal(got, sums.Seal(b)) || !ok {
			t.Errorf("Sealed of what was sealed twice, of %d bytes: %v", len(b), ok)
		}
	}
}

// turned tells the bytes with bits of a pattern turned from a place on; a byte's lowest bit is its first, as the sum takes them.
func turned(b []byte, at int, pattern uint32) []byte {
	b = bytes.Clone(b)
	for i := range 32 {
		if bit := at + i; pattern>>i&1 == 1 && bit < 8*len(b) {
			b[bit/8] ^= 1 << (bit % 8)
		}
	}
	return b
}

func patterns() []uint32 {
	var list []uint32
	for i := range 32 {
		list = append(list, 1|1<<i, math.MaxUint32>>i, 0x55555555>>i|1, 0xedb88320>>i|1)
	}
	seed := uint32(11)
	for range 200 {
		seed = seed*1664525 + 1013904223
		list = append(list, seed|1)
	}
	return list
}

func TestTurnedBitsAreNotSealed(t *testing.T) {
	for _, b := range [][]byte{nil, []byte("a"), []byte("123456789"), make([]byte, 40), drawn(40, 12), bytes.Repeat([]byte{255}, 40)} {
		sealed := sums.Seal(b)
		for _, pattern := range patterns() {
			for at := range 8 * len(sealed) {
				refusedSealed(t, turned(sealed, at, pattern))
			}
		}
	}
}

// Four whole bytes in a row are 32 bits in a row, whichever bit of a byte is called its first.
func TestOtherBytesAreNotSealed(t *testing.T) {
	sealed := sums.Seal(drawn(60, 13))
	for at := range len(sealed) - 3 {
		for seed := range uint32(50) {
			other := bytes.Clone(sealed)
			copy(other[at:at+4], drawn(4, seed))
			if !bytes.Equal(other, sealed) {
				refusedSealed(t, other)
			}
		}
	}
}

// roomy tells bytes with spare room behind, and all of the memory in which they stand.
func roomy(b []byte) (given, all []byte) {
	all = append(bytes.Clone(b), bytes.Repeat([]byte{0xa5}, 32)...)
	return all[:len(b)], all
}

// wipe changes all that can be come to by a list.
func wipe(b []byte) {
	b = b[:cap(b)]
	for i := range b {
		b[i] ^= 0xff
	}
}

func TestNothingHandedInIsChanged(t *testing.T) {
	for _, b := range append(samples(), sums.Seal(nil), sums.Seal([]byte("a")), sums.Seal(drawn(508, 14))) {
		given, all := roomy(b)
		was := bytes.Clone(all)
		sums.Crc(given)
		sums.Update(5, given)
		sums.Get(given)
		sums.Seal(given)
		sums.Sealed(given)
		if !bytes.Equal(all, was) {
			t.Errorf("%d bytes handed in were changed", len(b))
		}
	}
}

func TestAnswersAreNewMemory(t *testing.T) {
	for _, b := range [][]byte{nil, {}, []byte("a"), []byte("123456789"), drawn(508, 15)} {
		given, all := roomy(b)
		was := bytes.Clone(all)
		one, two := sums.Seal(given), sums.Seal(given)
		want := bytes.Clone(two)
		wipe(one)
		if !bytes.Equal(all, was) || !bytes.Equal(two, want) {
			t.Errorf("Seal of %d bytes shares its answer", len(b))
		}
		wipe(all)
		if !bytes.Equal(two, want) {
			t.Errorf("Seal keeps the %d bytes that were handed in", len(b))
		}
	}
	for _, b := range [][]byte{nil, []byte("a"), []byte("123456789"), drawn(508, 16)} {
		given, all := roomy(sums.Seal(b))
		was := bytes.Clone(all)
		one, _ := sums.Sealed(given)
		two, _ := sums.Sealed(given)
		wipe(one)
		if !bytes.Equal(all, was) || !bytes.Equal(two, b) {
			t.Errorf("Sealed of %d bytes shares its answer", len(b))
		}
		wipe(all)
		if !bytes.Equal(two, b) {
			t.Errorf("Sealed keeps the %d bytes that were handed in", len(b))
		}
	}
	for _, count := range []int{2, 4, 8} {
		one, _ := sums.Put(258, count)
		want := bytes.Clone(one)
		two, _ := sums.Put(258, count)
		wipe(one)
		three, _ := sums.Put(258, count)
		if !bytes.Equal(two, want) || !bytes.Equal(three, want) {
			t.Error("Put shares its answer of " + strconv.Itoa(count) + " bytes")
		}
	}
}

// An answer hangs on the arguments alone: refusals and other sums between two calls are nothing to it.
func TestAnswersHangOnArgumentsAlone(t *testing.T) {
	b := []byte("123456789")
	first := sums.Seal(b)
	sums.Crc(drawn(100, 17))
	sums.Put(-1, 8)
	sums.Get(nil)
	sums.Sealed([]byte("abcdefgh"))
	sums.Update(99, b)
	if !bytes.Equal(sums.Seal(b), first) || sums.Crc(b) != 0xcbf43926 {
		t.Error("an answer hangs on calls ahead of it")
	}
}
