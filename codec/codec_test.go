package codec_test

import (
	"bytes"
	"math"
	"slices"
	"testing"

	"chatelaine/api"
	"chatelaine/codec"
)

// What the document says of bytes stands here once more, in plain words and numbers of its own.

const (
	maxObjects  = 64
	maxCount    = 4294967295
	keyBytes    = 20
	objectBytes = 396
	summed      = 508
	sectorBytes = 512
	sectorBits  = 8 * sectorBytes
	lastSlot    = 15
	lastByte    = 63
)

// keyMay tells whether a key may be in a store of n.
func keyMay(k api.Key, n int) bool {
	if k.Kind < 0 || k.Kind > 10 {
		return false
	}
	named := k.Kind >= 2 && k.Kind <= 7
	least := api.Key{Kind: k.Kind} // the key but for what its kind names
	if named {
		if k.Oid < 0 || k.Oid >= n || k.Count < 0 || k.Count > maxCount {
			return false
		}
		least.Oid, least.Count = k.Oid, k.Count
	}
	switch {
	case k.Kind == 1 || k.Kind == 6:
		least.Value = k.Value
	case k.Kind == 2 && k.Rights >= 0 && k.Rights <= 7:
		least.Rights = k.Rights
	case k.Kind == 3 && k.Rights >= 0 && k.Rights <= 1:
		least.Rights = k.Rights
	case k.Kind == 7 && k.Call >= 0 && k.Call <= maxCount:
		least.Call = k.Call
	}
	return k == least
}

// objectMay tells whether an object may be in a store of n.
func objectMay(o api.Object, n int) bool {
	if o.Count < 0 || o.Count > maxCount || o.Calls < 0 || o.Calls > maxCount {
		return false
	}
	switch o.Kind {
	case 0, 3:
		return o == api.Object{Kind: o.Kind, Count: o.Count}
	case 1:
		for _, k := range o.Slots {
			if !keyMay(k, n) {
				return false
			}
		}
		return true
	case 2:
		return o == api.Object{Kind: 2, Count: o.Count, Bytes: o.Bytes}
	}
	return false
}

func layNumber(b []byte, n uint64) {
	for i := range b {
		b[i] = byte(n >> (8 * i))
	}
}

func readNumber(b []byte) uint64 {
	n := uint64(0)
	for i := len(b) - 1; i >= 0; i-- {
		n = n*256 + uint64(b[i])
	}
	return n
}

// plainKey lays a key's bytes by their places.
func plainKey(k api.Key) []byte {
	b := make([]byte, keyBytes)
	layNumber(b[0:1], uint64(k.Kind))
	layNumber(b[1:2], uint64(k.Rights))
	layNumber(b[2:4], uint64(k.Oid))
	layNumber(b[4:8], uint64(k.Count))
	layNumber(b[8:12], uint64(k.Call))
	layNumber(b[12:20], uint64(k.Value))
	return b
}

// plainKeyOf reads a key by the places of its bytes, whether it may be or not.
func plainKeyOf(b []byte) api.Key {
	return api.Key{
		Kind: api.KeyKind(b[0]), Rights: api.Rights(b[1]), Oid: int(readNumber(b[2:4])),
		Count: int64(readNumber(b[4:8])), Call: int64(readNumber(b[8:12])), Value: int64(readNumber(b[12:20])),
	}
}

// plainObject lays an object's sector by places, but for its sum.
func plainObject(o api.Object) [sectorBytes]byte {
	var b [sectorBytes]byte
	layNumber(b[0:1], uint64(o.Kind))
	layNumber(b[4:8], uint64(o.Count))
	layNumber(b[8:12], uint64(o.Calls))
	for i, k := range o.Slots {
		copy(b[12+20*i:], plainKey(k))
	}
	copy(b[332:objectBytes], o.Bytes[:])
	return b
}

// plainObjectOf reads an object by places, and whether the noughts are there.
func plainObjectOf(b [sectorBytes]byte) (api.Object, bool) {
	o := api.Object{Kind: api.ObjKind(b[0]), Count: int64(readNumber(b[4:8])), Calls: int64(readNumber(b[8:12]))}
	for i := range o.Slots {
		o.Slots[i] = plainKeyOf(b[12+20*i : 32+20*i])
	}
	copy(o.Bytes[:], b[332:objectBytes])
	for _, x := range slices.Concat(b[1:4], b[objectBytes:summed]) {
		if x != 0 {
			return api.Object{}, false
		}
	}
	return o, true
}

// plainSum is the sum bit by bit.
func plainSum(b []byte) uint32 {
	sum := uint32(math.MaxUint32)
	for _, x := range b {
		sum ^= uint32(x)
		for range 8 {
			low := sum & 1
			sum >>= 1
			if low == 1 {
				sum ^= 0xedb88320
			}
		}
	}
	return ^sum
}

// sealed makes a sector's sum right, whatever stands ahead of it.
func sealed(b [sectorBytes]byte) [sectorBytes]byte {
	layNumber(b[summed:], uint64(plainSum(b[:summed])))
	return b
}

// Keys to try

func key(kind api.KeyKind, oid int, count int64) api.Key {
	return api.Key{Kind: kind, Oid: oid, Count: count}
}

func nodeKey(oid int, count int64) api.Key { return key(api.KeyNode, oid, count) }

func number(n int64) api.Key { return api.Key{Kind: api.KeyNumber, Value: n} }

func values() []int64 {
	return []int64{0, 1, -1, 255, 256, -255, -256, -257, maxCount, maxCount + 1, -maxCount, -maxCount - 1, -maxCount - 2,
		1 << 31, -1 << 31, 1 << 40, -1 << 40, 0x0102030405060708, -0x0102030405060708, math.MaxInt64, math.MaxInt64 - 1, math.MinInt64, math.MinInt64 + 1}
}

func counts() []int64 {
	return []int64{0, 1, 2, 255, 256, 65536, 0x01020304, 1 << 31, maxCount - 1, maxCount}
}

// naming are keys of each kind that names an object, of that Oid and Count.
func naming(oid int, count int64) []api.Key {
	l := []api.Key{key(3, oid, count), key(4, oid, count), key(5, oid, count), key(6, oid, count), key(7, oid, count)}
	l = append(l, api.Key{Kind: 3, Oid: oid, Count: count, Rights: 1})
	for _, call := range counts() {
		l = append(l, api.Key{Kind: 7, Oid: oid, Count: count, Call: call})
	}
	for _, v := range values() {
		l = append(l, api.Key{Kind: 6, Oid: oid, Count: count, Value: v})
	}
	for r := range api.Rights(8) {
		l = append(l, api.Key{Kind: 2, Oid: oid, Count: count, Rights: r})
	}
	return l
}

// rightKeys are keys that may be in a store of n.
func rightKeys(n int) []api.Key {
	l := []api.Key{{}, {Kind: 8}, {Kind: 9}, {Kind: 10}}
	for _, v := range values() {
		l = append(l, number(v))
	}
	for _, oid := range []int{0, n / 2, n - 1} {
		for _, count := range counts() {
			l = append(l, naming(oid, count)...)
		}
	}
	return l
}

// wrongKeys are keys that may not be, in whatever store.
func wrongKeys() []api.Key {
	l := []api.Key{
		{Oid: 1}, {Count: 1}, {Call: 1}, {Rights: 1}, {Kind: 1, Oid: 1}, {Kind: 1, Count: 1}, {Kind: 1, Call: 1}, {Kind: 1, Rights: 1},
		{Kind: 3, Rights: 2}, {Kind: 3, Rights: 3}, {Kind: 3, Rights: 4}, {Kind: 3, Rights: 7}, {Kind: 4, Rights: 1}, {Kind: 5, Rights: 1},
		{Kind: 6, Rights: 1}, {Kind: 7, Rights: 1}, {Kind: 8, Rights: 1}, {Kind: 9, Oid: 1}, {Kind: 10, Count: 1}, {Kind: 8, Call: 1},
	}
	for _, kind := range []api.KeyKind{-1, -2, 11, 12, 255, 256, 257, 258, 1 << 32, math.MinInt, math.MaxInt} {
		l = append(l, api.Key{Kind: kind}, key(kind, 1, 1))
	}
	for _, kind := range []api.KeyKind{0, 2, 3, 4, 5, 7, 8, 9, 10} {
		for _, v := range values() {
			if v != 0 {
				l = append(l, api.Key{Kind: kind, Value: v})
			}
		}
	}
	for kind := api.KeyKind(2); kind <= 7; kind++ {
		for _, oid := range []int{-1, -2, 64, 65, 255, 256, 65535, 65536, 65537, 1 << 32, math.MinInt, math.MaxInt} {
			l = append(l, key(kind, oid, 1))
		}
		for _, count := range []int64{-1, -2, maxCount + 1, maxCount + 2, 1 << 40, math.MinInt64, math.MaxInt64} {
			l = append(l, key(kind, 1, count), api.Key{Kind: kind, Oid: 1, Count: 1, Call: count})
		}
		for _, r := range []api.Rights{-1, -8, 8, 9, 255, 256, 257, math.MinInt, math.MaxInt} {
			l = append(l, api.Key{Kind: kind, Oid: 1, Count: 1, Rights: r})
		}
	}
	return l
}

// TestTheListsOfKeys holds the lists against what may be, so that a key in the wrong one does not go unseen.
func TestTheListsOfKeys(t *testing.T) {
	for _, k := range rightKeys(maxObjects) {
		if !keyMay(k, maxObjects) {
			t.Errorf("%v may not be", k)
		}
	}
	for _, k := range wrongKeys() {
		if keyMay(k, maxObjects) {
			t.Errorf("%v may be", k)
		}
	}
}

// Objects to try

func object(kind api.ObjKind, count int64) api.Object { return api.Object{Kind: kind, Count: count} }

func node(count, calls int64) api.Object { return api.Object{Kind: 1, Count: count, Calls: calls} }

func calls(o api.Object, n int64) api.Object {
	o.Calls = n
	return o
}

func slot(o api.Object, at int, k api.Key) api.Object {
	o.Slots[at] = k
	return o
}

func with(o api.Object, at int, b byte) api.Object {
	o.Bytes[at] = b
	return o
}

// fullNode has a key in each slot, no two of them alike, and a byte at each place.
func fullNode(n int) api.Object {
	o := node(0x0a0b0c0d, 0x01020304)
	l := rightKeys(n)
	for i := range o.Slots {
		o.Slots[i] = l[(i*29+20)%len(l)]
	}
	for i := range o.Bytes {
		o.Bytes[i] = byte(i*5 + 3)
	}
	return o
}

func fullPage() api.Object {
	o := object(2, 0x04030201)
	for i := range o.Bytes {
		o.Bytes[i] = byte(255 - i)
	}
	return o
}

// rightObjects are objects that may be in a store of n.
func rightObjects(n int) []api.Object {
	l := []api.Object{fullNode(n), fullPage()}
	for _, count := range counts() {
		l = append(l, object(0, count), node(count, 0), node(0, count), node(count, maxCount-count), object(2, count), object(3, count))
	}
	for _, k := range rightKeys(n) {
		l = append(l, slot(node(2, 1), 0, k), slot(node(2, 1), lastSlot, k))
	}
	for at := range lastSlot + 1 {
		l = append(l, slot(node(1, 0), at, nodeKey(n-1, 3)), slot(fullNode(n), at, api.Key{}))
	}
	for at := range lastByte + 1 {
		l = append(l, with(object(2, 1), at, 1), with(node(1, 0), at, 255))
	}
	return l
}

// wrongObjects are objects that may not be in a store of n.
func wrongObjects(n int) []api.Object {
	var l []api.Object
	for _, kind := range []api.ObjKind{-1, -2, 4, 5, 255, 256, 257, 258, 1 << 32, math.MinInt, math.MaxInt} {
		l = append(l, object(kind, 0), object(kind, 1), with(object(kind, 1), 0, 1))
	}
	for kind := range api.ObjKind(4) {
		for _, count := range []int64{-1, maxCount + 1, 1 << 40, math.MinInt64, math.MaxInt64} {
			l = append(l, object(kind, count), calls(object(kind, 1), count))
		}
	}
	for _, kind := range []api.ObjKind{0, 2, 3} {
		l = append(l, calls(object(kind, 1), 1), calls(object(kind, 1), maxCount))
		for _, at := range []int{0, 1, lastSlot} {
			l = append(l, slot(object(kind, 1), at, number(0)), slot(object(kind, 1), at, nodeKey(0, 1)))
		}
	}
	for _, kind := range []api.ObjKind{0, 3} {
		for at := range lastByte + 1 {
			l = append(l, with(object(kind, 1), at, 1))
		}
	}
	full := fullNode(n)
	for _, k := range slices.Concat(wrongKeys(), notHad(n)) {
		l = append(l, slot(node(1, 1), 0, k), slot(full, 7, k), slot(full, lastSlot, k))
	}
	return l
}

// notHad are keys that may be, but name an object that a store of n has not.
func notHad(n int) []api.Key {
	var l []api.Key
	for _, oid := range []int{n, n + 1, maxObjects - 1} {
		if oid >= n && oid < maxObjects {
			l = append(l, naming(oid, 1)[:6]...)
		}
	}
	return l
}

func TestTheListsOfObjects(t *testing.T) {
	for _, n := range []int{1, 5, 64} {
		for _, o := range rightObjects(n) {
			if !objectMay(o, n) {
				t.Errorf("%v may not be among %d", o, n)
			}
		}
		for _, o := range wrongObjects(n) {
			if objectMay(o, n) {
				t.Errorf("%v may be among %d", o, n)
			}
		}
	}
}

func noStore() []int {
	return []int{0, -1, -2, 65, 66, 128, 1 << 32, 1<<32 + 1, math.MaxInt, math.MinInt, math.MinInt + 1}
}

// row tells numbers below a bound, the same ones for the same seed.
func row(seed uint64) func(bound int) int {
	return func(bound int) int {
		seed = seed*6364136223846793005 + 1442695040888963407
		return int(seed >> 33 % uint64(bound))
	}
}

// putKey fails, if PutKey does not tell just the bytes that it should.
func putKey(t *testing.T, k api.Key, want []byte) {
	t.Helper()
	if b, e := codec.PutKey(k); !bytes.Equal(b, want) || e != api.OK {
		t.Errorf("PutKey(%v) = %x, %v, want %x", k, b, e, want)
	}
}

// getKey fails, if GetKey does not tell what the bytes' places say.
func getKey(t *testing.T, b []byte) {
	t.Helper()
	want, e := api.Key{}, api.ErrCode
	if len(b) == keyBytes && keyMay(plainKeyOf(b), maxObjects) {
		want, e = plainKeyOf(b), api.OK
	}
	if k, f := codec.GetKey(b); k != want || f != e {
		t.Errorf("GetKey(%x) = %v, %v, want %v, %v", b, k, f, want, e)
	}
}

func put(t *testing.T, o api.Object, n int) [sectorBytes]byte {
	t.Helper()
	b, e := codec.Put(o, n)
	if want := sealed(plainObject(o)); b != want || e != api.OK {
		t.Errorf("Put(%v, %d) = %x, %v, want %x", o, n, b, e, want)
	}
	return b
}

func putRefused(t *testing.T, o api.Object, n int) {
	t.Helper()
	if b, e := codec.Put(o, n); b != [sectorBytes]byte{} || e != api.ErrArg {
		t.Errorf("Put(%v, %d) = %x, %v, want ErrArg alone", o, n, b, e)
	}
}

// get fails, if Get does not tell what the sector's places say.
func get(t *testing.T, b [sectorBytes]byte, n int) {
	t.Helper()
	o, whole := plainObjectOf(b)
	switch {
	case n < 1 || n > maxObjects:
		getTells(t, b, n, api.Object{}, api.ErrArg)
	case b != sealed(b):
		getTells(t, b, n, api.Object{}, api.ErrSum)
	case !whole || !objectMay(o, n):
		getTells(t, b, n, api.Object{}, api.ErrCode)
	default:
		getTells(t, b, n, o, api.OK)
	}
}

func getTells(t *testing.T, b [sectorBytes]byte, n int, want api.Object, e api.Errno) {
	t.Helper()
	if o, f := codec.Get(b, n); o != want || f != e {
		t.Errorf("Get(%x, %d) = %v, %v, want %v, %v", b, n, o, f, want, e)
	}
}

// P5.1

func TestPutKeyByHand(t *testing.T) {
	putKey(t, api.Key{}, make([]byte, 20))
	putKey(t, number(0), []byte{1, 19: 0})
	putKey(t, number(258), []byte{1, 12: 2, 1, 19: 0})
	putKey(t, number(-2), []byte{1, 12: 254, 255, 255, 255, 255, 255, 255, 255})
	putKey(t, number(math.MinInt64), []byte{1, 19: 128})
	putKey(t, number(math.MaxInt64), []byte{1, 12: 255, 255, 255, 255, 255, 255, 255, 127})
	putKey(t, number(maxCount+1), []byte{1, 16: 1, 19: 0})
	putKey(t, api.Key{Kind: 2, Oid: 63, Count: maxCount, Rights: 7}, []byte{2, 7, 63, 0, 255, 255, 255, 255, 19: 0})
	putKey(t, api.Key{Kind: 3, Oid: 5, Count: 0x01020304, Rights: 1}, []byte{3, 1, 5, 0, 4, 3, 2, 1, 19: 0})
	putKey(t, key(4, 6, 256), []byte{4, 0, 6, 0, 0, 1, 19: 0})
	putKey(t, key(5, 0, 1), []byte{5, 4: 1, 19: 0})
	putKey(t, api.Key{Kind: 6, Oid: 7, Count: 2, Value: -1}, []byte{6, 0, 7, 0, 2, 12: 255, 255, 255, 255, 255, 255, 255, 255})
	putKey(t, api.Key{Kind: 7, Oid: 1, Count: 3, Call: 0x0a0b0c0d}, []byte{7, 0, 1, 0, 3, 0, 0, 0, 13, 12, 11, 10, 19: 0})
	putKey(t, api.Key{Kind: 8}, []byte{8, 19: 0})
	putKey(t, api.Key{Kind: 9}, []byte{9, 19: 0})
	putKey(t, api.Key{Kind: 10}, []byte{10, 19: 0})
}

func TestPutKey(t *testing.T) {
	for _, k := range rightKeys(maxObjects) {
		putKey(t, k, plainKey(k))
	}
	for oid := range maxObjects {
		for _, k := range naming(oid, 7) {
			putKey(t, k, plainKey(k))
		}
	}
}

func TestPutKeyRefuses(t *testing.T) {
	for _, k := range wrongKeys() {
		if b, e := codec.PutKey(k); len(b) != 0 || e != api.ErrArg {
			t.Errorf("PutKey(%v) = %x, %v, want ErrArg alone", k, b, e)
		}
	}
}

func TestGetKey(t *testing.T) {
	for _, k := range rightKeys(maxObjects) {
		if got, e := codec.GetKey(plainKey(k)); got != k || e != api.OK {
			t.Errorf("GetKey(%x) = %v, %v, want %v", plainKey(k), got, e, k)
		}
	}
}

func TestGetKeyByHand(t *testing.T) {
	want := api.Key{Kind: 6, Oid: 7, Count: 2, Value: -1}
	b := []byte{6, 0, 7, 0, 2, 0, 0, 0, 0, 0, 0, 0, 255, 255, 255, 255, 255, 255, 255, 255}
	if k, e := codec.GetKey(b); k != want || e != api.OK {
		t.Errorf("GetKey(%x) = %v, %v, want %v", b, k, e, want)
	}
	want = api.Key{Kind: 7, Oid: 63, Count: 0x01020304, Call: 0x05060708}
	b = []byte{7, 0, 63, 0, 4, 3, 2, 1, 8, 7, 6, 5, 0, 0, 0, 0, 0, 0, 0, 0}
	if k, e := codec.GetKey(b); k != want || e != api.OK {
		t.Errorf("GetKey(%x) = %v, %v, want %v", b, k, e, want)
	}
}

func TestGetKeyHowManyBytes(t *testing.T) {
	for _, k := range []api.Key{{}, number(7), number(-1), nodeKey(5, 1), {Kind: 10}} {
		b := plainKey(k)
		for size := range keyBytes {
			getKey(t, b[:size])
			getKey(t, slices.Clip(b[:size]))
		}
		for _, more := range []int{1, 2, 4, 20, 376, 492, 100000} {
			getKey(t, append(slices.Clip(b), make([]byte, more)...))
		}
	}
	getKey(t, nil)
	getKey(t, []byte{})
}

func TestGetKeyEachByte(t *testing.T) {
	l := append(naming(5, 6), api.Key{}, number(0), number(-1), api.Key{Kind: 8}, api.Key{Kind: 9}, api.Key{Kind: 10}, nodeKey(63, maxCount))
	for _, k := range l {
		for at := range keyBytes {
			for x := range 256 {
				b := plainKey(k)
				b[at] = byte(x)
				getKey(t, b)
			}
		}
	}
}

func TestGetKeyOfAnyBytes(t *testing.T) {
	next := row(51)
	for range 20000 {
		b := make([]byte, keyBytes)
		for range 1 + next(6) {
			b[next(keyBytes)] = byte(next(256))
		}
		b[0] = byte(next(12))
		getKey(t, b)
	}
}

// P5.2

func TestPutByHand(t *testing.T) {
	o := api.Object{Kind: 1, Count: 0x01020304, Calls: 0x05060708}
	o.Slots[0] = number(-1)
	o.Slots[15] = api.Key{Kind: 2, Oid: 3, Count: 9, Rights: 5}
	o.Bytes[0], o.Bytes[63] = 17, 18
	want := [sectorBytes]byte{0: 1, 4: 4, 3, 2, 1, 8: 8, 7, 6, 5,
		12: 1, 24: 255, 255, 255, 255, 255, 255, 255, 255,
		312: 2, 313: 5, 314: 3, 316: 9, 332: 17, 395: 18}
	layNumber(want[508:], uint64(plainSum(want[:508])))
	if b, e := codec.Put(o, 4); b != want || e != api.OK {
		t.Errorf("Put = %x, %v, want %x", b, e, want)
	}
	getTells(t, want, 4, o, api.OK)
}

// The sum of 508 noughts was reckoned apart from the program, and so was that of the free object with Count 1.
func TestPutSumByHand(t *testing.T) {
	b, e := codec.Put(api.Object{}, 1)
	if want := [sectorBytes]byte{508: 84, 109, 187, 15}; b != want || e != api.OK {
		t.Errorf("Put(free) = %x, %v, want %x", b, e, want)
	}
	b, e = codec.Put(object(0, 1), 1)
	if want := [sectorBytes]byte{4: 1, 508: 73, 152, 139, 3}; b != want || e != api.OK {
		t.Errorf("Put(free, Count 1) = %x, %v, want %x", b, e, want)
	}
}

func TestPutAndGet(t *testing.T) {
	for _, n := range []int{1, 5, 64} {
		for _, o := range rightObjects(n) {
			getTells(t, put(t, o, n), n, o, api.OK)
		}
	}
}

func TestPutRefuses(t *testing.T) {
	for _, n := range []int{1, 5, 64} {
		for _, o := range wrongObjects(n) {
			putRefused(t, o, n)
		}
	}
}

func TestHowManyObjects(t *testing.T) {
	good, bad := rightObjects(1)[:20], wrongObjects(1)[:20]
	for _, n := range noStore() {
		for _, o := range append(good, bad...) {
			putRefused(t, o, n)
		}
		for _, o := range good {
			b := sealed(plainObject(o))
			getTells(t, b, n, api.Object{}, api.ErrArg)
			b[7]++
			getTells(t, b, n, api.Object{}, api.ErrArg) // ahead of a sum that is not right
			b[0] = 9
			getTells(t, sealed(b), n, api.Object{}, api.ErrArg) // ahead of bytes of no object
		}
		getTells(t, [sectorBytes]byte{}, n, api.Object{}, api.ErrArg)
	}
	for n := 1; n <= maxObjects; n++ {
		getTells(t, put(t, fullNode(n), n), n, fullNode(n), api.OK)
		getTells(t, [sectorBytes]byte{}, n, api.Object{}, api.ErrSum)
	}
}

// A key may name just what the store has; the sector alone does not tell how many there are.
func TestWhatKeysName(t *testing.T) {
	for n := 1; n <= maxObjects; n++ {
		for oid := range maxObjects {
			for i, k := range naming(oid, 1)[:6] {
				o := slot(node(1, 0), (oid+i)%16, k)
				b := sealed(plainObject(o))
				if oid < n {
					put(t, o, n)
					getTells(t, b, n, o, api.OK)
				} else {
					putRefused(t, o, n)
					getTells(t, b, n, api.Object{}, api.ErrCode)
				}
			}
		}
	}
}

func TestGetSumAheadOfCode(t *testing.T) {
	for _, at := range []int{0, 1, 3, 12, 31, 396, 507} {
		b := sealed(plainObject(object(0, 1)))
		b[at] = 99
		getTells(t, b, 4, api.Object{}, api.ErrSum)
		getTells(t, sealed(b), 4, api.Object{}, api.ErrCode)
	}
	for _, o := range wrongObjects(3) {
		b := plainObject(o)
		if sealed(b) != b {
			getTells(t, b, 3, api.Object{}, api.ErrSum)
		}
	}
}

// bases are sectors from which others are made.
func bases(n int) [][sectorBytes]byte {
	var l [][sectorBytes]byte
	for _, o := range []api.Object{{}, object(0, 7), node(1, 2), fullNode(n), object(2, 3), fullPage(), object(3, maxCount)} {
		l = append(l, sealed(plainObject(o)))
	}
	return l
}

// Each byte of a sector in its place, the sum made right: no object but where that byte may be so.
func TestGetEachByteSealed(t *testing.T) {
	for _, n := range []int{5, 64} {
		for _, b := range bases(n) {
			for at := range summed {
				for _, x := range []byte{0, 1, 2, 4, 8, 11, 64, 255} {
					other := b
					other[at] = x
					get(t, sealed(other), n)
				}
			}
		}
	}
}

func TestGetEachKind(t *testing.T) {
	for _, b := range bases(6) {
		for x := range 256 {
			b[0] = byte(x)
			get(t, sealed(b), 6)
		}
	}
}

// Noughts behind the kind and up to 508: each place, each value but nought is none, of each kind of object.
func TestGetNoughts(t *testing.T) {
	for _, b := range bases(6) {
		for at := range summed {
			if at >= 1 && at <= 3 || at >= objectBytes {
				for _, x := range []byte{1, 2, 128, 255} {
					other := b
					other[at] = x
					getTells(t, sealed(other), 6, api.Object{}, api.ErrCode)
				}
			}
		}
	}
}

func TestGetOfAnyBytes(t *testing.T) {
	next := row(52)
	l := bases(9)
	for range 20000 {
		b := l[next(len(l))]
		for range 1 + next(3) {
			at := next(objectBytes)
			if next(2) == 0 {
				at = 12 + 20*next(16) + next(4)
			}
			b[at] = byte(next(1 << (1 + next(8))))
		}
		get(t, sealed(b), 1+next(maxObjects))
	}
}

func TestGetOfNoSum(t *testing.T) {
	for _, b := range bases(6) {
		for at := summed; at < sectorBytes; at++ {
			for x := 1; x < 256; x++ {
				other := b
				other[at] ^= byte(x)
				getTells(t, other, 6, api.Object{}, api.ErrSum)
			}
		}
	}
	full := [sectorBytes]byte{}
	for i := range full {
		full[i] = 255
	}
	getTells(t, full, 6, api.Object{}, api.ErrSum)
	getTells(t, sealed(full), 6, api.Object{}, api.ErrCode)
}

// P5.3

func TestKeysThereAndBack(t *testing.T) {
	for _, k := range rightKeys(maxObjects) {
		b, e := codec.PutKey(k)
		got, f := codec.GetKey(b)
		if got != k || e != api.OK || f != api.OK {
			t.Errorf("GetKey of PutKey(%v) = %v, %v, %v", k, got, e, f)
		}
	}
}

func TestKeysBackAndThere(t *testing.T) {
	next := row(53)
	were := 0
	for range 20000 {
		b := make([]byte, keyBytes)
		for range 1 + next(5) {
			b[[]int{1, 2, 4, 7, 8, 11, 12, 15, 16, 19}[next(10)]] = byte(next(8))
		}
		b[0] = byte(next(11))
		if k, e := codec.GetKey(b); e == api.OK {
			were++
			putKey(t, k, b)
		}
	}
	if were < 1000 {
		t.Errorf("only %d keys", were)
	}
}

func TestObjectsThereAndBack(t *testing.T) {
	for _, n := range []int{1, 7, 64} {
		for _, o := range rightObjects(n) {
			b, e := codec.Put(o, n)
			got, f := codec.Get(b, n)
			if got != o || e != api.OK || f != api.OK {
				t.Errorf("Get of Put(%v, %d) = %v, %v, %v", o, n, got, e, f)
			}
		}
	}
}

func TestObjectsBackAndThere(t *testing.T) {
	next := row(54)
	l := bases(9)
	were := 0
	for range 20000 {
		b := l[next(len(l))]
		for range 1 + next(4) {
			b[[]int{4, 5, 7, 8, 11, 14, 16, 36, 332, 340, 395}[next(11)]] = byte(next(9))
		}
		b = sealed(b)
		if o, e := codec.Get(b, 9); e == api.OK {
			were++
			if again, f := codec.Put(o, 9); again != b || f != api.OK {
				t.Errorf("Put of Get(%x) = %x, %v", b, again, f)
			}
		}
	}
	if were < 1000 {
		t.Errorf("only %d objects", were)
	}
}

// turn turns bits of a sector, from that one on where row has them set; a byte's lowest bit is the first one, as the sum takes them.
func turn(b [sectorBytes]byte, from int, row uint64) [sectorBytes]byte {
	for i := from; row != 0 && i < sectorBits; i++ {
		b[i/8] ^= byte(row&1) << (i % 8)
		row >>= 1
	}
	return b
}

func TestOneBitTurned(t *testing.T) {
	for _, b := range bases(9) {
		for at := range sectorBits {
			getTells(t, turn(b, at, 1), 9, api.Object{}, api.ErrSum)
		}
	}
}

func TestBitsInARowTurned(t *testing.T) {
	next := row(55)
	for _, b := range bases(9) {
		for at := range sectorBits {
			for _, bits := range []int{2, 9, 32, 2 + next(31)} {
				all := uint64(1)<<bits - 1
				some := uint64(next(1<<31))<<1 | uint64(next(2)) | 1 | 1<<(bits-1)
				getTells(t, turn(b, at, all), 9, api.Object{}, api.ErrSum)
				getTells(t, turn(b, at, some&all), 9, api.Object{}, api.ErrSum)
			}
		}
	}
}

// What is handed in, what is answered

func TestPutKeyIsNewMemory(t *testing.T) {
	k := api.Key{Kind: 6, Oid: 7, Count: 2, Value: -1}
	a, _ := codec.PutKey(k)
	b, _ := codec.PutKey(k)
	_ = append(a, 1, 2, 3)
	clear(a[:cap(a)])
	if !bytes.Equal(b, plainKey(k)) {
		t.Errorf("another answer has become %x", b)
	}
	putKey(t, k, plainKey(k))
}

func TestGetKeyLeavesBytes(t *testing.T) {
	for _, size := range []int{0, 1, 4, 12, 19, 20, 21, 39, 40} {
		all := bytes.Repeat(plainKey(nodeKey(5, 6)), 4)
		was := slices.Clone(all)
		got, e := codec.GetKey(all[:size])
		again, f := codec.GetKey(all[:size])
		if !bytes.Equal(all, was) || got != again || e != f {
			t.Errorf("of %d bytes: %v, %v, then %v, %v; the bytes are %x", size, got, e, again, f, all)
		}
		clear(all)
		if size == keyBytes && got != nodeKey(5, 6) {
			t.Errorf("the key has become %v", got)
		}
	}
}

func TestPutAndGetAlike(t *testing.T) {
	o := fullNode(9)
	a, e := codec.Put(o, 9)
	b, f := codec.Put(o, 9)
	if a != b || e != api.OK || f != api.OK || o != fullNode(9) {
		t.Errorf("Put twice: %x, %v, %x, %v", a, e, b, f)
	}
	was := a
	x, e := codec.Get(a, 9)
	y, f := codec.Get(a, 9)
	if x != y || x != o || e != api.OK || f != api.OK || a != was {
		t.Errorf("Get twice: %v, %v, %v, %v", x, e, y, f)
	}
}
