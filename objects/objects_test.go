package objects_test

import (
	"iter"
	"math"
	"slices"
	"testing"

	"chatelaine/api"
	"chatelaine/objects"
)

// What the document says of objects stands here once more, in plain words and numbers of its own.

const (
	maxObjects = 64
	maxCount   = 4294967295
	lastSlot   = 15
	lastByte   = 63
)

// Keys to try

func key(kind api.KeyKind, oid int, count int64) api.Key {
	return api.Key{Kind: kind, Oid: oid, Count: count}
}

func nodeKey(oid int, count int64) api.Key { return key(api.KeyNode, oid, count) }

func pageKey(oid int, count int64) api.Key { return key(api.KeyPage, oid, count) }

func resume(oid int, count, call int64) api.Key {
	return api.Key{Kind: api.KeyResume, Oid: oid, Count: count, Call: call}
}

func number(n int64) api.Key { return api.Key{Kind: api.KeyNumber, Value: n} }

// bare are keys of no object.
func bare() []api.Key {
	return []api.Key{{}, number(0), number(7), number(math.MinInt64), number(math.MaxInt64), {Kind: 8}, {Kind: 9}, {Kind: 10}}
}

// naming are keys of each kind that names an object, of that Oid and Count; resume keys with that Call.
func naming(oid int, count, call int64) []api.Key {
	l := []api.Key{
		{Kind: 3, Oid: oid, Count: count}, {Kind: 3, Oid: oid, Count: count, Rights: 1},
		{Kind: 4, Oid: oid, Count: count}, {Kind: 5, Oid: oid, Count: count},
		{Kind: 6, Oid: oid, Count: count}, {Kind: 6, Oid: oid, Count: count, Value: -9},
		{Kind: 7, Oid: oid, Count: count, Call: call},
	}
	for r := range api.Rights(8) {
		l = append(l, api.Key{Kind: 2, Oid: oid, Count: count, Rights: r})
	}
	return l
}

// wrongKeys are keys that may not be, in whatever store.
func wrongKeys() []api.Key {
	return []api.Key{
		{Kind: -1}, {Kind: 11}, {Kind: math.MinInt}, {Kind: math.MaxInt}, key(-1, 1, 1), key(11, 1, 1),
		{Oid: 1}, {Count: 1}, {Call: 1}, {Rights: 1}, {Value: 1},
		{Kind: 1, Oid: 1}, {Kind: 1, Count: 1}, {Kind: 1, Rights: 1}, {Kind: 8, Value: 1}, {Kind: 9, Oid: 1}, {Kind: 10, Call: 1},
		nodeKey(-1, 0), nodeKey(64, 0), nodeKey(math.MaxInt, 0), nodeKey(math.MinInt, 0),
		nodeKey(0, -1), nodeKey(0, maxCount+1), nodeKey(0, math.MaxInt64), nodeKey(0, math.MinInt64),
		{Kind: 2, Rights: -1}, {Kind: 2, Rights: 8}, {Kind: 2, Call: 1}, {Kind: 2, Value: 1},
		{Kind: 3, Rights: 2}, {Kind: 3, Rights: 4}, {Kind: 3, Rights: 7}, pageKey(-1, 0), pageKey(0, -1),
		{Kind: 4, Rights: 1}, {Kind: 5, Value: 1}, {Kind: 6, Call: 1}, key(6, 64, 0),
		resume(0, 0, -1), resume(0, 0, maxCount+1), resume(-1, 0, 0), {Kind: 7, Value: 1},
	}
}

// Objects to try

func object(kind api.ObjKind, count int64) api.Object { return api.Object{Kind: kind, Count: count} }

func free(count int64) api.Object { return object(api.ObjFree, count) }

func node(count, calls int64) api.Object {
	return api.Object{Kind: api.ObjNode, Count: count, Calls: calls}
}

func page(count int64) api.Object { return object(api.ObjPage, count) }

func retired() api.Object { return object(api.ObjRetired, maxCount) }

func calls(o api.Object, n int64) api.Object {
	o.Calls = n
	return o
}

func slot(o api.Object, at int, k api.Key) api.Object {
	o.Slots[at] = k
	return o
}

func with(o api.Object, at int, b byte) api.Object {
	o.Bytes[at] = b
	return o
}

// fullNode has a key in each slot, all of objects below n, and a byte at each place.
func fullNode(n int) api.Object {
	o := node(7, 8)
	l := slices.Concat(naming(n-1, 5, 6), naming(0, maxCount, maxCount), bare())
	for i := range o.Slots {
		o.Slots[i] = l[(i*3+1)%len(l)]
	}
	for i := range o.Bytes {
		o.Bytes[i] = byte(i*5 + 3)
	}
	return o
}

func fullPage() api.Object {
	o := page(9)
	for i := range o.Bytes {
		o.Bytes[i] = byte(255 - i)
	}
	return o
}

// right are objects that may be in a store of n.
func right(n int) []api.Object {
	l := []api.Object{{}, free(1), free(maxCount), object(3, 0), object(3, 1), retired(), fullNode(n), fullPage()}
	for _, count := range []int64{0, 1, maxCount} {
		for _, called := range []int64{0, 1, maxCount} {
			l = append(l, node(count, called))
		}
		l = append(l, page(count))
	}
	for _, at := range []int{0, 1, lastSlot} {
		for _, k := range slices.Concat(bare(), naming(n-1, 0, 0), naming(0, maxCount, maxCount), naming(n/2, 3, 1)) {
			l = append(l, slot(node(2, 1), at, k))
		}
	}
	for _, at := range []int{0, 1, lastByte} {
		l = append(l, with(page(1), at, 1), with(node(1, 0), at, 255))
	}
	return l
}

// wrong are objects that may not be in a store of n.
func wrong(n int) []api.Object {
	var l []api.Object
	for _, kind := range []api.ObjKind{-1, 4, -2, 5, 256, 257, 1 << 32, math.MinInt, math.MaxInt} {
		l = append(l, object(kind, 0), object(kind, 1), with(object(kind, 1), 0, 1), slot(object(kind, 1), 0, number(1)))
	}
	for kind := range api.ObjKind(4) {
		for _, count := range []int64{-1, maxCount + 1, math.MinInt64, math.MaxInt64} {
			l = append(l, object(kind, count), calls(object(kind, 1), count))
		}
	}
	for _, o := range []api.Object{{}, free(1), free(maxCount), object(3, 0), retired()} {
		l = append(l, unlikeNothing(o)...)
		for _, at := range []int{0, 1, 31, lastByte} {
			l = append(l, with(o, at, 1), with(o, at, 255))
		}
	}
	l = append(l, unlikeNothing(page(1))...)
	l = append(l, unlikeNothing(fullPage())...)
	return append(l, wrongNodes(n)...)
}

// unlikeNothing tells an object with what nothing but a node has: Calls, a key.
func unlikeNothing(o api.Object) []api.Object {
	l := []api.Object{calls(o, 1), calls(o, maxCount), calls(o, -1)}
	for _, at := range []int{0, 1, 7, lastSlot} {
		for _, k := range []api.Key{number(0), number(1), nodeKey(0, 0), {Kind: 8}, {Value: 1}, {Kind: -1}} {
			l = append(l, slot(o, at, k))
		}
	}
	return l
}

// wrongNodes are nodes with keys that may not be, or that name an object that a store of n has not.
func wrongNodes(n int) []api.Object {
	bad := wrongKeys()
	if n < maxObjects {
		bad = slices.Concat(bad, naming(n, 0, 0), naming(n, 1, 1), naming(maxObjects-1, 1, 0))
	}
	var l []api.Object
	for _, k := range bad {
		for _, at := range []int{0, 1, 7, lastSlot} {
			l = append(l, slot(node(1, 1), at, k), slot(fullNode(n), at, k))
		}
		l = append(l, slot(slot(node(1, 1), 3, k), 9, k))
		l = append(l, slot(slot(node(1, 1), 2, number(4)), lastSlot, k))
	}
	return l
}

// lists tells right and wrong objects of a store of n, and fails if there are too few of them.
func lists(t *testing.T, n int) (good, bad []api.Object) {
	t.Helper()
	good, bad = right(n), wrong(n)
	if len(good) < 100 || len(bad) < 400 {
		t.Fatalf("only %d right objects, %d wrong ones", len(good), len(bad))
	}
	return good, bad
}

// Stores to try

func made(t *testing.T, n int) *objects.Store {
	t.Helper()
	s, e := objects.New(n)
	if s == nil || e != api.OK {
		t.Fatalf("New(%d): %v, %v", n, s, e)
	}
	return s
}

func of(t *testing.T, l ...api.Object) *objects.Store {
	t.Helper()
	s, e := objects.Of(l...)
	if s == nil || e != api.OK {
		t.Fatalf("Of %d objects: %v, %v", len(l), s, e)
	}
	return s
}

// none are stores that are not there.
func none() map[string]*objects.Store {
	return map[string]*objects.Store{"nil": nil, "zero": {}}
}

func wants(t *testing.T, what string, got, want api.Errno) {
	t.Helper()
	if got != want {
		t.Errorf("%s: %v, want %v", what, got, want)
	}
}

func put(t *testing.T, s *objects.Store, oid int, o api.Object) {
	t.Helper()
	wants(t, "Put", s.Put(oid, o), api.OK)
}

// holds asks for all objects, one by one and by All.
func holds(t *testing.T, s *objects.Store, l ...api.Object) {
	t.Helper()
	if s.Size() != len(l) {
		t.Errorf("Size = %d, want %d", s.Size(), len(l))
		return
	}
	for oid, want := range l {
		if got, e := s.Get(oid); got != want || e != api.OK {
			t.Errorf("Get(%d) = %v, %v, want %v", oid, got, e, want)
		}
	}
	tells(t, s.All(), l...)
}

func tells(t *testing.T, all iter.Seq2[int, api.Object], l ...api.Object) {
	t.Helper()
	next := 0
	for oid, got := range all {
		if oid != next || oid >= len(l) || got != l[oid] {
			t.Errorf("All tells %d, %v as number %d of %d", oid, got, next, len(l))
			return
		}
		next++
	}
	if next != len(l) {
		t.Errorf("All tells %d objects, want %d", next, len(l))
	}
}

// some are five objects of all kinds, whose keys name one another.
func some() []api.Object {
	a := slot(slot(node(1, 3), 0, pageKey(2, 4)), lastSlot, nodeKey(4, 1))
	b := with(with(page(4), 0, 1), lastByte, 2)
	return []api.Object{a, free(2), b, retired(), slot(node(6, 0), 1, resume(0, 1, 3))}
}

func noStore() []int {
	return []int{0, -1, 65, 66, 128, 1 << 32, 1<<32 + 1, math.MaxInt, math.MinInt, math.MinInt + 1}
}

func noOids(size int) []int {
	return []int{-1, -2, size, size + 1, size + 64, 1 << 32, 1<<32 + 1, math.MaxInt, math.MinInt, math.MinInt + 1}
}

// P4.1

func TestNew(t *testing.T) {
	for _, n := range []int{1, 2, 3, 31, 63, 64} {
		holds(t, made(t, n), make([]api.Object, n)...)
	}
}

func TestNewRefuses(t *testing.T) {
	for _, n := range noStore() {
		if s, e := objects.New(n); s != nil || e != api.ErrArg {
			t.Errorf("New(%d): %v, %v, want ErrArg alone", n, s, e)
		}
	}
}

func TestOf(t *testing.T) {
	holds(t, of(t, some()...), some()...)
	for _, n := range []int{1, 2, 5, 63, 64} {
		l := make([]api.Object, n)
		for i := range l {
			l[i] = slot(with(node(int64(i), 2), i, 9), i%16, nodeKey(n-1-i, int64(i)))
		}
		holds(t, of(t, l...), l...)
	}
}

func TestOfHowMany(t *testing.T) {
	for _, n := range []int{0, 65, 66, 128, 1000} {
		if s, e := objects.Of(make([]api.Object, n)...); s != nil || e != api.ErrArg {
			t.Errorf("Of %d objects: %v, %v, want ErrArg alone", n, s, e)
		}
	}
	if s, e := objects.Of(); s != nil || e != api.ErrArg {
		t.Errorf("Of nothing: %v, %v, want ErrArg alone", s, e)
	}
	if s, e := objects.Of(make([]api.Object, 0, 8)...); s != nil || e != api.ErrArg {
		t.Errorf("Of nothing with room for 8: %v, %v, want ErrArg alone", s, e)
	}
}

func TestOfEachObject(t *testing.T) {
	for _, n := range []int{1, 4, 64} {
		good, bad := lists(t, n)
		for _, at := range slices.Compact([]int{0, n / 2, n - 1}) {
			l := make([]api.Object, n)
			for _, o := range good {
				l[at] = o
				holds(t, of(t, l...), l...)
			}
			for _, o := range bad {
				l[at] = o
				if s, e := objects.Of(l...); s != nil || e != api.ErrArg {
					t.Errorf("Of %d, at %d %v: %v, want ErrArg alone", n, at, o, e)
				}
			}
		}
	}
}

func TestCheck(t *testing.T) {
	for _, n := range []int{1, 2, 5, 32, 63, 64} {
		good, bad := lists(t, n)
		for _, o := range good {
			if e := objects.Check(o, n); e != api.OK {
				t.Errorf("Check(%v, %d) = %v", o, n, e)
			}
		}
		for _, o := range bad {
			if e := objects.Check(o, n); e != api.ErrArg {
				t.Errorf("Check(%v, %d) = %v, want ErrArg", o, n, e)
			}
		}
	}
}

func TestCheckHowMany(t *testing.T) {
	good, bad := lists(t, 1)
	for _, n := range noStore() {
		for _, o := range append(good, bad...) {
			if e := objects.Check(o, n); e != api.ErrArg {
				t.Errorf("Check(%v, %d) = %v, want ErrArg", o, n, e)
			}
		}
	}
}

// A key may name just what the store has, and that need not be what the key is of.
func TestCheckWhatKeysName(t *testing.T) {
	for n := 1; n <= maxObjects; n++ {
		for oid := range maxObjects {
			want := api.OK
			if oid >= n {
				want = api.ErrArg
			}
			for _, k := range naming(oid, 1, 1) {
				for _, at := range []int{0, lastSlot} {
					if e := objects.Check(slot(node(1, 0), at, k), n); e != want {
						t.Errorf("%v in slot %d, %d objects: %v, want %v", k, at, n, e, want)
					}
				}
			}
		}
	}
}

func TestEachSlotAndEachByteIsAsked(t *testing.T) {
	for at := range lastSlot + 1 {
		for _, o := range []api.Object{{}, page(1), retired()} {
			wants(t, "a key", objects.Check(slot(o, at, number(0)), 3), api.ErrArg)
		}
		wants(t, "a node with a key", objects.Check(slot(node(1, 0), at, nodeKey(2, 9)), 3), api.OK)
		wants(t, "a node with a key of no object", objects.Check(slot(node(1, 0), at, nodeKey(3, 9)), 3), api.ErrArg)
		wants(t, "a node with a key that may not be", objects.Check(slot(node(1, 0), at, api.Key{Kind: 1, Oid: 1}), 3), api.ErrArg)
	}
	for at := range lastByte + 1 {
		wants(t, "a free one with a byte", objects.Check(with(free(0), at, 1), 3), api.ErrArg)
		wants(t, "a retired one with a byte", objects.Check(with(retired(), at, 128), 3), api.ErrArg)
		wants(t, "a page with a byte", objects.Check(with(page(0), at, 1), 3), api.OK)
		wants(t, "a node with a byte", objects.Check(with(node(0, 0), at, 1), 3), api.OK)
	}
}

func TestGetRefuses(t *testing.T) {
	for _, s := range []*objects.Store{made(t, 1), of(t, some()...), made(t, 64)} {
		for _, oid := range noOids(s.Size()) {
			if o, e := s.Get(oid); o != (api.Object{}) || e != api.ErrRange {
				t.Errorf("Get(%d) of %d: %v, %v, want ErrRange alone", oid, s.Size(), o, e)
			}
		}
	}
}

func TestPutEachObject(t *testing.T) {
	for _, n := range []int{1, 5, 64} {
		good, bad := lists(t, n)
		s := made(t, n)
		l := make([]api.Object, n)
		for _, oid := range slices.Compact([]int{0, n / 2, n - 1}) {
			for _, o := range good {
				put(t, s, oid, o)
				l[oid] = o
				holds(t, s, l...)
			}
			for _, o := range bad {
				if e := s.Put(oid, o); e != api.ErrArg {
					t.Errorf("Put(%d, %v) of %d: %v, want ErrArg", oid, o, n, e)
				}
			}
			holds(t, s, l...)
		}
	}
}

func TestPutRefuses(t *testing.T) {
	for _, l := range [][]api.Object{make([]api.Object, 1), some(), make([]api.Object, 64)} {
		s := of(t, l...)
		_, bad := lists(t, len(l))
		for _, oid := range noOids(len(l)) {
			wants(t, "Put past the objects", s.Put(oid, fullPage()), api.ErrRange)
			wants(t, "Put of what may not be past the objects", s.Put(oid, bad[0]), api.ErrRange)
		}
		for _, o := range bad {
			wants(t, "Put of what may not be", s.Put(0, o), api.ErrArg)
			wants(t, "Put of what may not be past the objects", s.Put(len(l), o), api.ErrRange)
		}
		holds(t, s, l...)
	}
}

// P4.2

func TestAllMayBeLeft(t *testing.T) {
	l := some()
	s := of(t, l...)
	for leave := 1; leave <= len(l)+1; leave++ {
		asked := 0
		s.All()(func(oid int, o api.Object) bool {
			if oid != asked || o != l[oid] {
				t.Errorf("All tells %d as number %d", oid, asked)
			}
			asked++
			return asked < leave
		})
		if asked != min(leave, len(l)) {
			t.Errorf("left at number %d, All told %d", leave, asked)
		}
	}
	holds(t, s, l...)
}

func TestAllIsGoneThroughAgain(t *testing.T) {
	s := of(t, some()...)
	all := s.All()
	tells(t, all, some()...)
	tells(t, all, some()...)
	for oid := range all {
		if oid == 2 {
			break
		}
	}
	for range all {
		break
	}
	tells(t, all, some()...)
	tells(t, s.All(), some()...)
}

func TestAllWithinOneAnother(t *testing.T) {
	l := some()
	s := of(t, l...)
	all := s.All()
	var pairs [][2]int
	for a, x := range all {
		for b, y := range all {
			if x != l[a] || y != l[b] {
				t.Errorf("All within All tells %v, %v at %d, %d", x, y, a, b)
			}
			pairs = append(pairs, [2]int{a, b})
		}
		tells(t, s.All(), l...)
	}
	if len(pairs) != 25 || pairs[0] != [2]int{0, 0} || pairs[7] != [2]int{1, 2} || pairs[24] != [2]int{4, 4} {
		t.Errorf("All within All: %v", pairs)
	}
}

// What All tells is as it is when it is come to, also of one that was there ahead of the Put.
func TestAllBehindAPut(t *testing.T) {
	l := some()
	s := of(t, l...)
	all := s.All()
	l[0], l[4] = fullPage(), free(9)
	put(t, s, 0, l[0])
	put(t, s, 4, l[4])
	tells(t, all, l...)
	tells(t, s.All(), l...)
	l[3] = node(8, 8)
	for oid, o := range all {
		if oid == 1 {
			put(t, s, 3, l[3])
			put(t, s, 0, node(1, 1))
		}
		if o != l[oid] {
			t.Errorf("All tells %v at %d", o, oid)
		}
	}
	l[0] = node(1, 1)
	holds(t, s, l...)
}

func TestCopyGoesOnApart(t *testing.T) {
	l := some()
	s := of(t, l...)
	other := s.Copy()
	holds(t, other, l...)
	for oid := range l {
		put(t, s, oid, with(page(1), 5, byte(oid+1)))
		holds(t, other, l...)
	}
	again := s.Copy()
	for oid := range l {
		put(t, other, oid, node(int64(oid), 7))
	}
	for oid := range l {
		if o, e := s.Get(oid); o != with(page(1), 5, byte(oid+1)) || e != api.OK {
			t.Errorf("what was copied was changed at %d: %v, %v", oid, o, e)
		}
	}
	if !objects.Same(s, again) || objects.Same(s, other) {
		t.Error("a copy of what has gone on is another one")
	}
}

func TestCopyOfEachSize(t *testing.T) {
	for n := 1; n <= maxObjects; n++ {
		s := made(t, n)
		put(t, s, n-1, fullNode(n))
		other := s.Copy()
		l := make([]api.Object, n)
		l[n-1] = fullNode(n)
		holds(t, other, l...)
		wants(t, "Put past a copy", other.Put(n, free(0)), api.ErrRange)
	}
}

func alike(t *testing.T, a, b *objects.Store) {
	t.Helper()
	for _, pair := range [][2]*objects.Store{{a, b}, {b, a}} {
		if !objects.Same(pair[0], pair[1]) {
			t.Error("they are not Same")
		}
		if l := objects.Unlike(pair[0], pair[1]); len(l) != 0 {
			t.Errorf("Unlike = %v, want none", l)
		}
	}
}

func differ(t *testing.T, a, b *objects.Store, want ...int) {
	t.Helper()
	for _, pair := range [][2]*objects.Store{{a, b}, {b, a}} {
		if objects.Same(pair[0], pair[1]) {
			t.Error("they are Same")
		}
		if l := objects.Unlike(pair[0], pair[1]); !slices.Equal(l, want) {
			t.Errorf("Unlike = %v, want %v", l, want)
		}
	}
}

func TestSame(t *testing.T) {
	for n := 1; n <= maxObjects; n++ {
		alike(t, made(t, n), made(t, n))
	}
	s := of(t, some()...)
	alike(t, s, s)
	alike(t, s, of(t, some()...))
	alike(t, s, s.Copy())
}

// Another number of objects: where is nothing that can be told.
func TestSameOfOtherSizes(t *testing.T) {
	for n := 1; n < maxObjects; n++ {
		differ(t, made(t, n), made(t, n+1))
		differ(t, made(t, 1), made(t, n+1))
	}
	differ(t, of(t, some()...), of(t, append(some(), free(0))...))
}

func TestUnlikeByEachPart(t *testing.T) {
	base := slot(with(node(3, 4), 2, 5), 6, nodeKey(1, 1))
	for _, other := range []api.Object{
		free(3), slot(with(node(2, 4), 2, 5), 6, nodeKey(1, 1)), slot(with(node(3, 5), 2, 5), 6, nodeKey(1, 1)),
		slot(base, 0, number(0)), slot(base, lastSlot, number(1)), slot(base, 6, nodeKey(1, 2)), slot(base, 6, nodeKey(0, 1)),
		slot(base, 6, api.Key{Kind: 2, Oid: 1, Count: 1, Rights: 1}), slot(base, 6, api.Key{}),
		with(base, 0, 1), with(base, 2, 4), with(base, lastByte, 1),
	} {
		differ(t, of(t, base, free(0)), of(t, other, free(0)), 0)
		differ(t, of(t, free(0), base), of(t, free(0), other), 1)
	}
	differ(t, made(t, 1), of(t, free(1)), 0)
	differ(t, of(t, page(1)), of(t, node(1, 0)), 0)
	differ(t, of(t, free(1)), of(t, object(3, 1)), 0)
}

func TestUnlikeTellsEachOid(t *testing.T) {
	a := made(t, 64)
	b := a.Copy()
	var want []int
	for _, oid := range []int{0, 1, 7, 31, 32, 62, 63} {
		put(t, b, oid, page(1))
		want = append(want, oid)
		differ(t, a, b, want...)
	}
	for _, oid := range []int{63, 7, 0} {
		put(t, a, oid, page(1))
		want = slices.DeleteFunc(want, func(n int) bool { return n == oid })
		differ(t, a, b, want...)
	}
	for oid := range maxObjects {
		put(t, a, oid, page(2))
		put(t, b, oid, page(3))
	}
	want = nil
	for oid := range maxObjects {
		want = append(want, oid)
	}
	differ(t, a, b, want...)
}

// P4.3

// counts says of a key that may be whether it counts in a store of these.
func counts(k api.Key, l []api.Object) bool {
	switch k.Kind {
	case 0, 1, 8, 9, 10:
		return true
	}
	if k.Oid >= len(l) || l[k.Oid].Count != k.Count {
		return false
	}
	if k.Kind == 3 {
		return l[k.Oid].Kind == 2
	}
	return l[k.Oid].Kind == 1 && (k.Kind != 7 || l[k.Oid].Calls == k.Call)
}

func asked(t *testing.T, s *objects.Store, k api.Key, want bool, o api.Object) {
	t.Helper()
	if !want {
		o = api.Object{}
	}
	if got, ok := s.Named(k); got != o || ok != want {
		t.Errorf("Named(%v) = %v, %t, want %v, %t", k, got, ok, o, want)
	}
}

func prepares(t *testing.T, s *objects.Store, k api.Key, want bool) {
	t.Helper()
	prepared := api.Key{}
	if want {
		prepared = k
	}
	if got := s.Prepared(k); got != prepared {
		t.Errorf("Prepared(%v) = %v, want %v", k, got, prepared)
	}
}

// Of each object all kinds of keys, those that were of its number ahead, and those that will be.
func TestKeysThatCount(t *testing.T) {
	l := append(some(), fullPage(), node(maxCount, maxCount), node(0, 0), page(0), page(maxCount), object(3, 1))
	s := of(t, l...)
	for oid := range maxObjects {
		for _, count := range []int64{0, 1, 2, 3, 4, 5, 6, 7, 9, maxCount - 1, maxCount} {
			for _, call := range []int64{0, 1, 2, 3, 4, maxCount} {
				for _, k := range naming(oid, count, call) {
					want := counts(k, l)
					asked(t, s, k, want, l[min(oid, len(l)-1)])
					prepares(t, s, k, want)
				}
			}
		}
	}
}

func TestKeysOfANode(t *testing.T) {
	s := made(t, 2)
	o := slot(with(node(3, 9), 4, 5), 2, number(6))
	put(t, s, 1, o)
	for _, k := range naming(1, 3, 9) {
		asked(t, s, k, k.Kind != 3, o)
		prepares(t, s, k, k.Kind != 3)
	}
	for _, k := range slices.Concat(naming(1, 2, 9), naming(1, 4, 9), naming(0, 3, 9), naming(0, 0, 0), naming(2, 3, 9), naming(63, 3, 9)) {
		asked(t, s, k, false, o)
		prepares(t, s, k, false)
	}
	for _, call := range []int64{0, 8, 10, maxCount} {
		asked(t, s, resume(1, 3, call), false, o)
		prepares(t, s, resume(1, 3, call), false)
	}
}

func TestKeysOfAPage(t *testing.T) {
	s := made(t, 64)
	o := with(page(5), 63, 1)
	put(t, s, 63, o)
	for _, k := range naming(63, 5, 0) {
		asked(t, s, k, k.Kind == 3, o)
		prepares(t, s, k, k.Kind == 3)
	}
	for _, k := range slices.Concat(naming(63, 4, 0), naming(63, 6, 0), naming(62, 5, 0)) {
		asked(t, s, k, false, o)
		prepares(t, s, k, false)
	}
}

func TestNoKeyOfAFreeOrRetiredOneCounts(t *testing.T) {
	s := of(t, free(0), free(2), retired(), object(3, 0))
	for oid := range 4 {
		for _, count := range []int64{0, 2, maxCount} {
			for _, k := range naming(oid, count, 0) {
				asked(t, s, k, false, free(0))
				prepares(t, s, k, false)
			}
		}
	}
}

func TestKeysOfNoObject(t *testing.T) {
	for _, s := range []*objects.Store{made(t, 1), of(t, some()...), of(t, node(0, 0)), of(t, page(0)), made(t, 64)} {
		for _, k := range bare() {
			asked(t, s, k, false, free(0))
			prepares(t, s, k, true)
		}
	}
}

func TestKeysThatMayNotBeDoNotCount(t *testing.T) {
	for _, s := range []*objects.Store{of(t, node(0, 0), node(1, 1)), of(t, page(0), page(1)), of(t, free(0), retired()), made(t, 64)} {
		for _, k := range wrongKeys() {
			asked(t, s, k, false, free(0))
			prepares(t, s, k, false)
		}
	}
}

// A number that is given anew: what counted counts no more, what was kept of it neither.
func TestKeysBehindAPut(t *testing.T) {
	s := of(t, node(1, 0), page(1))
	k, call := nodeKey(0, 1), resume(0, 1, 0)
	asked(t, s, k, true, node(1, 0))
	asked(t, s, call, true, node(1, 0))
	put(t, s, 0, node(1, 1))
	asked(t, s, k, true, node(1, 1))
	asked(t, s, call, false, free(0))
	prepares(t, s, call, false)
	put(t, s, 0, free(1))
	asked(t, s, k, false, free(0))
	prepares(t, s, k, false)
	put(t, s, 0, page(1))
	asked(t, s, k, false, free(0))
	asked(t, s, pageKey(0, 1), true, page(1))
	put(t, s, 0, node(2, 0))
	prepares(t, s, k, false)
	prepares(t, s, nodeKey(0, 2), true)
	prepares(t, s, pageKey(1, 1), true)
}

// P4.4

// A row of numbers that is the same each time, for many calls in no order.
func row(from uint32) func(n int) int {
	return func(n int) int {
		from = from*1664525 + 1013904223
		return int(from>>8) % n
	}
}

func TestWhatIsPutIsGot(t *testing.T) {
	for _, n := range []int{1, 3, 17, 64} {
		good, bad := lists(t, n)
		s := made(t, n)
		l := make([]api.Object, n)
		pick := row(uint32(n))
		for range 600 {
			oid := pick(n)
			switch pick(4) {
			case 0:
				wants(t, "Put of what may not be", s.Put(oid, bad[pick(len(bad))]), api.ErrArg)
			case 1:
				wants(t, "Put past the objects", s.Put(n+pick(9), good[pick(len(good))]), api.ErrRange)
			default:
				l[oid] = good[pick(len(good))]
				put(t, s, oid, l[oid])
			}
			if got, e := s.Get(oid); got != l[oid] || e != api.OK {
				t.Fatalf("Get(%d) = %v, %v, want %v", oid, got, e, l[oid])
			}
		}
		holds(t, s, l...)
		alike(t, s, of(t, l...))
	}
}

func TestOthersStay(t *testing.T) {
	n := 16
	l := make([]api.Object, n)
	for i := range l {
		l[i] = with(node(int64(i), 1), i, byte(i+1))
	}
	for oid := range n {
		s, was := of(t, l...), of(t, l...)
		put(t, s, oid, fullPage())
		differ(t, s, was, oid)
		put(t, s, oid, l[oid])
		alike(t, s, was)
	}
}

func TestPreparedOfPreparedIsIt(t *testing.T) {
	for _, s := range []*objects.Store{nil, {}, made(t, 1), of(t, some()...), of(t, page(1), node(1, 1), page(0))} {
		l := append(bare(), wrongKeys()...)
		for oid := range 6 {
			l = slices.Concat(l, naming(oid, 1, 1), naming(oid, 4, 0), naming(oid, 0, 0))
		}
		for _, k := range l {
			one := s.Prepared(k)
			if s.Prepared(one) != one || one != k && one != (api.Key{}) {
				t.Errorf("Prepared(%v) = %v, Prepared of that %v", k, one, s.Prepared(one))
			}
			if o, ok := s.Named(k); ok && one != k {
				t.Errorf("%v names %v, and is prepared %v", k, o, one)
			}
		}
	}
}

// No store

func TestNoStore(t *testing.T) {
	for name, s := range none() {
		for _, oid := range append(noOids(1), 0, 1, 63) {
			if o, e := s.Get(oid); o != (api.Object{}) || e != api.ErrNil {
				t.Errorf("%s: Get(%d) = %v, %v, want ErrNil alone", name, oid, o, e)
			}
			wants(t, name+": Put", s.Put(oid, page(1)), api.ErrNil)
			wants(t, name+": Put of what may not be", s.Put(oid, object(-1, -1)), api.ErrNil)
		}
		if s.Size() != 0 {
			t.Errorf("%s: Size = %d", name, s.Size())
		}
		if all := s.All(); all == nil {
			t.Errorf("%s: All is not there", name)
		} else {
			tells(t, all)
			tells(t, all)
		}
		if other := s.Copy(); other != nil {
			t.Errorf("%s: Copy = %v, want nil", name, other)
		}
		for _, k := range slices.Concat(bare(), wrongKeys(), naming(0, 0, 0), naming(1, 1, 1), naming(63, maxCount, 0)) {
			asked(t, s, k, false, free(0))
			prepares(t, s, k, false)
		}
	}
}

func TestNoStoreIsLikeNoStoreAlone(t *testing.T) {
	for _, s := range none() {
		for _, other := range none() {
			alike(t, s, other)
		}
		alike(t, s, s)
		for _, other := range []*objects.Store{made(t, 1), made(t, 64), of(t, some()...)} {
			differ(t, s, other)
		}
	}
}

// Memory

func TestWhatIsHandedInIsNotKept(t *testing.T) {
	l := append(make([]api.Object, 0, 9), some()...)
	room := l[:9]
	room[5], room[8] = fullPage(), fullPage()
	s := of(t, l...)
	if !slices.Equal(l, some()) || room[5] != fullPage() || room[6] != (api.Object{}) || room[8] != fullPage() {
		t.Error("Of changed what was handed in")
	}
	for i := range l {
		l[i] = node(99, 99)
	}
	holds(t, s, some()...)
	put(t, s, 0, fullPage())
	put(t, s, 4, free(9))
	for i := range l {
		if l[i] != node(99, 99) {
			t.Error("Put changed what Of was handed")
		}
	}
	o := fullPage()
	put(t, s, 1, o)
	o.Bytes[0], o.Kind = 77, 0
	if got, _ := s.Get(1); got != fullPage() {
		t.Error("Put keeps what it was handed")
	}
}

func TestStoresOfOneListGoOnApart(t *testing.T) {
	l := some()
	a, b := of(t, l...), of(t, l...)
	put(t, a, 2, fullPage())
	put(t, b, 0, free(7))
	differ(t, a, b, 0, 2)
	if !slices.Equal(l, some()) {
		t.Error("the list was changed")
	}
	same := fullPage()
	put(t, a, 0, same)
	put(t, a, 2, same)
	put(t, a, 2, free(1))
	if got, _ := a.Get(0); got != same {
		t.Error("what was put twice is one object")
	}
	c := of(t, same, same, same)
	put(t, c, 1, free(1))
	holds(t, c, same, free(1), same)
}

func TestAnswersAreNewMemory(t *testing.T) {
	s := of(t, some()...)
	o, _ := s.Get(0)
	o.Kind, o.Slots[0], o.Bytes[0] = 2, number(7), 7
	named, _ := s.Named(pageKey(2, 4))
	named.Bytes[0], named.Count = 99, 99
	for _, o := range s.All() {
		o.Kind, o.Count, o.Slots[lastSlot], o.Bytes[lastByte] = 0, 50, number(8), 8
	}
	holds(t, s, some()...)
	other := of(t, make([]api.Object, 5)...)
	first, second := objects.Unlike(s, other), objects.Unlike(s, other)
	if len(first) != 5 || len(second) != 5 {
		t.Fatalf("Unlike = %v, %v", first, second)
	}
	first[0], first[4] = 77, 88
	if second[0] != 0 || second[4] != 4 {
		t.Error("two answers of Unlike share memory")
	}
	differ(t, s, other, 0, 1, 2, 3, 4)
}

// What is asked changes nothing, however often, and of whichever store.
func TestAskingChangesNothing(t *testing.T) {
	l := some()
	s, was, zero := of(t, l...), of(t, l...), &objects.Store{}
	for range 3 {
		s.Get(1)
		s.Get(9)
		s.Put(9, page(1))
		s.Put(1, page(-1))
		s.Size()
		s.Named(nodeKey(0, 1))
		s.Prepared(nodeKey(0, 2))
		s.Copy()
		objects.Same(s, was)
		objects.Unlike(s, made(t, 5))
		zero.Put(0, page(1))
		zero.Copy()
		holds(t, s, l...)
		alike(t, s, was)
	}
	if zero.Copy() != nil || zero.Size() != 0 {
		t.Error("a zero store became one")
	}
}
