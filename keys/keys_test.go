package keys_test

import (
	"math"
	"slices"
	"strconv"
	"strings"
	"testing"

	"chatelaine/api"
	"chatelaine/keys"
)

// What the document says of keys stands here once more, in plain words and numbers of its own.

const (
	maxCount = 4294967295
	lastOid  = 63
)

// kindNames are the kinds' names, by their numbers.
var kindNames = []string{"void", "number", "node", "page", "bank", "proc", "start", "resume", "discrim", "clock", "check"}

// names tells which parts keys of a kind name, in the order of their text.
func names(k api.KeyKind) []string {
	switch k {
	case 1:
		return []string{"Value"}
	case 2, 3:
		return []string{"Oid", "Count", "Rights"}
	case 4, 5:
		return []string{"Oid", "Count"}
	case 6:
		return []string{"Oid", "Count", "Value"}
	case 7:
		return []string{"Oid", "Count", "Call"}
	}
	return nil
}

func there(k api.KeyKind) bool { return k >= 0 && k <= 10 }

// part tells a part of a key by its name.
func part(k api.Key, name string) int64 {
	switch name {
	case "Oid":
		return int64(k.Oid)
	case "Count":
		return k.Count
	case "Call":
		return k.Call
	case "Rights":
		return int64(k.Rights)
	}
	return k.Value
}

// mayPart tells whether a part that is named may be that number.
func mayPart(kind api.KeyKind, name string, n int64) bool {
	switch name {
	case "Oid":
		return n >= 0 && n <= lastOid
	case "Count", "Call":
		return n >= 0 && n <= maxCount
	case "Rights":
		if kind == 3 {
			return n == 0 || n == 1
		}
		return n >= 0 && n <= 7
	}
	return true
}

func mayBe(k api.Key) bool {
	if !there(k.Kind) {
		return false
	}
	for _, name := range []string{"Oid", "Count", "Call", "Rights", "Value"} {
		n := part(k, name)
		if slices.Contains(names(k.Kind), name) {
			if !mayPart(k.Kind, name, n) {
				return false
			}
		} else if n != 0 {
			return false
		}
	}
	return true
}

func wanted(k api.KeyKind) api.ObjKind {
	switch k {
	case 2, 4, 5, 6, 7:
		return 1
	case 3:
		return 2
	}
	return 0
}

// Keys to try

func key(kind api.KeyKind, oid int, count int64) api.Key {
	return api.Key{Kind: kind, Oid: oid, Count: count}
}

func node(oid int, count int64, r api.Rights) api.Key {
	return api.Key{Kind: api.KeyNode, Oid: oid, Count: count, Rights: r}
}

func page(oid int, count int64, r api.Rights) api.Key {
	return api.Key{Kind: api.KeyPage, Oid: oid, Count: count, Rights: r}
}

func start(oid int, count, badge int64) api.Key {
	return api.Key{Kind: api.KeyStart, Oid: oid, Count: count, Value: badge}
}

func resume(oid int, count, call int64) api.Key {
	return api.Key{Kind: api.KeyResume, Oid: oid, Count: count, Call: call}
}

func number(n int64) api.Key { return api.Key{Kind: api.KeyNumber, Value: n} }

// allKinds are the kinds that there are, and some below and above them.
func allKinds() []api.KeyKind {
	l := []api.KeyKind{math.MinInt, -256, -2, -1}
	for k := range api.KeyKind(14) {
		l = append(l, k)
	}
	return append(l, 255, 256, 1<<32, math.MaxInt)
}

// each goes over keys of all kinds, whose parts stand at the edges, till look tells false.
func each(look func(api.Key) bool) {
	counts := []int64{math.MinInt64, -1, 0, 1, maxCount, maxCount + 1, math.MaxInt64}
	for _, kind := range allKinds() {
		for _, oid := range []int{math.MinInt, -1, 0, 1, 62, 63, 64, math.MaxInt} {
			for _, count := range counts {
				for _, call := range counts {
					for _, rights := range []api.Rights{math.MinInt, -8, -1, 0, 1, 2, 3, 4, 5, 6, 7, 8, 9, math.MaxInt} {
						for _, value := range []int64{math.MinInt64, -1, 0, 1, math.MaxInt64} {
							if !look(api.Key{Kind: kind, Oid: oid, Count: count, Call: call, Rights: rights, Value: value}) {
								return
							}
						}
					}
				}
			}
		}
	}
}

// some are keys that may be: each kind, parts at the edges and within, so few that all pairs can be asked.
func some() []api.Key {
	l := []api.Key{{}, {Kind: api.KeyDiscrim}, {Kind: api.KeyClock}, {Kind: api.KeyCheck}}
	for _, n := range []int64{math.MinInt64, -1, 0, 1, 7, math.MaxInt64} {
		l = append(l, number(n))
	}
	for _, oid := range []int{0, 1, 63} {
		for _, count := range []int64{0, 1, maxCount} {
			for r := range api.Rights(8) {
				l = append(l, node(oid, count, r))
			}
			l = append(l, page(oid, count, 0), page(oid, count, 1))
			l = append(l, key(api.KeyBank, oid, count), key(api.KeyProc, oid, count))
			for _, n := range []int64{math.MinInt64, -1, 0, 1, math.MaxInt64} {
				l = append(l, start(oid, count, n))
			}
			for _, n := range []int64{0, 1, maxCount} {
				l = append(l, resume(oid, count, n))
			}
		}
	}
	return l
}

// wrong are keys that may not be, each by one part.
func wrong() []api.Key {
	var l []api.Key
	for _, k := range allKinds() {
		if !there(k) {
			l = append(l, api.Key{Kind: k}, key(k, 5, 1))
			continue
		}
		l = append(l, key(k, -1, 0), key(k, 64, 0), key(k, math.MinInt, 0), key(k, math.MaxInt, 0))
		for _, n := range []int64{math.MinInt64, -1, maxCount + 1, math.MaxInt64} {
			l = append(l, key(k, 0, n), resumeLike(k, n))
		}
		l = append(l, wrongRights(k)...)
		l = append(l, unnamed(k)...)
	}
	return l
}

func resumeLike(k api.KeyKind, call int64) api.Key { return api.Key{Kind: k, Call: call} }

func wrongRights(k api.KeyKind) []api.Key {
	var l []api.Key
	for _, r := range []api.Rights{math.MinInt, -8, -1, 8, 9, 16, math.MaxInt} {
		l = append(l, api.Key{Kind: k, Rights: r})
	}
	if k == api.KeyPage {
		for _, r := range []api.Rights{2, 3, 4, 5, 6, 7} {
			l = append(l, page(5, 1, r))
		}
	}
	return l
}

// unnamed are keys of a kind of which one part that it does not name is 1.
func unnamed(kind api.KeyKind) []api.Key {
	var l []api.Key
	for _, one := range []struct {
		name string
		key  api.Key
	}{
		{"Oid", api.Key{Oid: 1}},
		{"Count", api.Key{Count: 1}},
		{"Call", api.Key{Call: 1}},
		{"Rights", api.Key{Rights: 1}},
		{"Value", api.Key{Value: 1}},
	} {
		if !slices.Contains(names(kind), one.name) {
			one.key.Kind = kind
			l = append(l, one.key)
		}
	}
	return l
}

func mustBeWrong(t *testing.T) []api.Key {
	t.Helper()
	l := wrong()
	if len(l) < 200 {
		t.Fatalf("only %d wrong keys", len(l))
	}
	for _, k := range l {
		if mayBe(k) {
			t.Fatalf("%v is no wrong key", k)
		}
	}
	return l
}

// P3.1

func TestTheKeysToTryAreRight(t *testing.T) {
	for _, k := range some() {
		if !mayBe(k) {
			t.Errorf("%v may not be", k)
		}
	}
	mustBeWrong(t)
}

func TestCheckOfEachKind(t *testing.T) {
	full := map[api.KeyKind]api.Key{
		api.KeyVoid:    {},
		api.KeyNumber:  number(math.MinInt64),
		api.KeyNode:    node(63, maxCount, 7),
		api.KeyPage:    page(63, maxCount, 1),
		api.KeyBank:    key(api.KeyBank, 63, maxCount),
		api.KeyProc:    key(api.KeyProc, 63, maxCount),
		api.KeyStart:   start(63, maxCount, math.MaxInt64),
		api.KeyResume:  resume(63, maxCount, maxCount),
		api.KeyDiscrim: {Kind: api.KeyDiscrim},
		api.KeyClock:   {Kind: api.KeyClock},
		api.KeyCheck:   {Kind: api.KeyCheck},
	}
	if len(full) != 11 {
		t.Fatalf("%d kinds", len(full))
	}
	for kind, k := range full {
		if e := keys.Check(k); e != api.OK {
			t.Errorf("Check(%v): %v", k, e)
		}
		if e := keys.Check(api.Key{Kind: kind}); e != api.OK {
			t.Errorf("Check of noughts, Kind %d: %v", kind, e)
		}
	}
}

func TestCheckRefuses(t *testing.T) {
	for _, k := range mustBeWrong(t) {
		if e := keys.Check(k); e != api.ErrArg {
			t.Errorf("Check(%v): %v, want ErrArg", k, e)
		}
	}
}

func TestCheckAtAllEdges(t *testing.T) {
	may, not := 0, 0
	each(func(k api.Key) bool {
		want := api.ErrArg
		if mayBe(k) {
			want = api.OK
			may++
		} else {
			not++
		}
		if e := keys.Check(k); e != want {
			t.Errorf("Check(%v): %v, want %v", k, e, want)
			return false
		}
		return true
	})
	if may < 200 || not < 200000 {
		t.Errorf("asked of %d that may be, %d that may not", may, not)
	}
}

func TestNamesAndWants(t *testing.T) {
	for _, x := range []struct {
		key   api.Key
		oid   int
		is    bool
		wants api.ObjKind
	}{
		{api.Key{}, 0, false, api.ObjFree},
		{number(7), 0, false, api.ObjFree},
		{node(5, 1, 7), 5, true, api.ObjNode},
		{node(0, 0, 0), 0, true, api.ObjNode},
		{page(63, 1, 1), 63, true, api.ObjPage},
		{page(0, 0, 0), 0, true, api.ObjPage},
		{key(api.KeyBank, 1, 9), 1, true, api.ObjNode},
		{key(api.KeyProc, 2, 9), 2, true, api.ObjNode},
		{start(3, 9, -4), 3, true, api.ObjNode},
		{resume(4, 9, 8), 4, true, api.ObjNode},
		{api.Key{Kind: api.KeyDiscrim}, 0, false, api.ObjFree},
		{api.Key{Kind: api.KeyClock}, 0, false, api.ObjFree},
		{api.Key{Kind: api.KeyCheck}, 0, false, api.ObjFree},
	} {
		if oid, is := keys.Names(x.key); oid != x.oid || is != x.is {
			t.Errorf("Names(%v) = %d, %t", x.key, oid, is)
		}
		if wants := keys.Wants(x.key); wants != x.wants {
			t.Errorf("Wants(%v) = %d", x.key, wants)
		}
	}
}

func TestNamesAndWantsAtAllEdges(t *testing.T) {
	each(func(k api.Key) bool {
		want, of := 0, api.ObjFree
		if mayBe(k) {
			want, of = k.Oid, wanted(k.Kind)
		}
		oid, is := keys.Names(k)
		if oid != want || is != (of != api.ObjFree) {
			t.Errorf("Names(%v) = %d, %t", k, oid, is)
			return false
		}
		if wants := keys.Wants(k); wants != of {
			t.Errorf("Wants(%v) = %d, want %d", k, wants, of)
			return false
		}
		return true
	})
}

// objects are objects of each kind, and of kinds that there are not, with these Counts and Calls, a node's slots full or not.
func objects() []api.Object {
	counts := []int64{math.MinInt64, -1, 0, 1, 2, maxCount, maxCount + 1, math.MaxInt64}
	var l []api.Object
	for _, kind := range []api.ObjKind{math.MinInt, -1, 0, 1, 2, 3, 4, math.MaxInt} {
		for _, count := range counts {
			for _, calls := range counts {
				o := api.Object{Kind: kind, Count: count, Calls: calls}
				l = append(l, o)
				o.Slots[3] = node(1, 1, 0)
				o.Slots[4] = api.Key{Kind: -7, Oid: -9}
				o.Bytes[5] = 200
				l = append(l, o)
			}
		}
	}
	return l
}

func counts(k api.Key, o api.Object) bool {
	switch {
	case !mayBe(k):
		return false
	case k.Kind == 0 || k.Kind == 1 || k.Kind > 7:
		return true
	case k.Kind == 3:
		return o.Kind == api.ObjPage && o.Count == k.Count
	case k.Kind == 7:
		return o.Kind == api.ObjNode && o.Count == k.Count && o.Calls == k.Call
	}
	return o.Kind == api.ObjNode && o.Count == k.Count
}

func TestCounts(t *testing.T) {
	thing := api.Object{Kind: api.ObjNode, Count: 3, Calls: 8}
	other := api.Object{Kind: api.ObjPage, Count: 3}
	for _, x := range []struct {
		key  api.Key
		of   api.Object
		want bool
	}{
		{node(5, 3, 0), thing, true},
		{node(5, 3, 7), thing, true},
		{node(5, 2, 0), thing, false},
		{node(5, 4, 0), thing, false},
		{node(5, 3, 0), other, false},
		{page(5, 3, 0), other, true},
		{page(5, 3, 1), other, true},
		{page(5, 2, 0), other, false},
		{page(5, 3, 0), thing, false},
		{key(api.KeyBank, 5, 3), thing, true},
		{key(api.KeyBank, 5, 2), thing, false},
		{key(api.KeyProc, 5, 3), thing, true},
		{key(api.KeyProc, 5, 3), other, false},
		{start(5, 3, 8), thing, true},
		{start(5, 3, 9), thing, true},
		{start(5, 8, 3), thing, false},
		{resume(5, 3, 8), thing, true},
		{resume(5, 3, 7), thing, false},
		{resume(5, 3, 9), thing, false},
		{resume(5, 2, 8), thing, false},
		{resume(5, 3, 0), other, false},
		{node(5, 0, 0), api.Object{}, false},
		{page(5, 0, 0), api.Object{}, false},
		{resume(5, 0, 0), api.Object{}, false},
		{node(5, 3, 0), api.Object{Kind: api.ObjRetired, Count: 3}, false},
		{page(5, maxCount, 0), api.Object{Kind: api.ObjRetired, Count: maxCount}, false},
		{api.Key{}, api.Object{}, true},
		{api.Key{}, thing, true},
		{number(5), api.Object{Kind: api.ObjRetired, Count: 9}, true},
		{api.Key{Kind: api.KeyDiscrim}, other, true},
		{api.Key{Kind: api.KeyClock}, thing, true},
		{api.Key{Kind: api.KeyCheck}, api.Object{Kind: -5}, true},
	} {
		if got := keys.Counts(x.key, x.of); got != x.want {
			t.Errorf("Counts(%v; Kind %d, Count %d, Calls %d) = %t", x.key, x.of.Kind, x.of.Count, x.of.Calls, got)
		}
	}
}

func TestCountsOfAllObjects(t *testing.T) {
	l := append(some(), wrong()...)
	l = append(l, resume(5, 2, 2), resume(5, 1, 2), node(5, 2, 3), page(5, 2, 1), page(5, 2, 2), node(5, -1, 0), resume(5, 1, -1), resume(5, 1, maxCount+1))
	for _, o := range objects() {
		for _, k := range l {
			if got, want := keys.Counts(k, o), counts(k, o); got != want {
				t.Fatalf("Counts(%v; Kind %d, Count %d, Calls %d) = %t", k, o.Kind, o.Count, o.Calls, got)
			}
		}
	}
}

// P3.2

func TestWeaken(t *testing.T) {
	for _, x := range []struct{ key, want api.Key }{
		{api.Key{}, api.Key{}},
		{number(-8), number(-8)},
		{number(0), number(0)},
		{node(5, 1, 0), node(5, 1, 3)},
		{node(5, 1, 1), node(5, 1, 3)},
		{node(5, 1, 2), node(5, 1, 3)},
		{node(5, 1, 3), node(5, 1, 3)},
		{node(5, 1, 4), node(5, 1, 7)},
		{node(5, 1, 5), node(5, 1, 7)},
		{node(5, 1, 6), node(5, 1, 7)},
		{node(63, maxCount, 7), node(63, maxCount, 7)},
		{page(3, 1, 0), page(3, 1, 1)},
		{page(3, 1, 1), page(3, 1, 1)},
		{key(api.KeyBank, 5, 1), api.Key{}},
		{key(api.KeyProc, 5, 1), api.Key{}},
		{start(5, 1, 2), api.Key{}},
		{resume(5, 1, 2), api.Key{}},
		{api.Key{Kind: api.KeyDiscrim}, api.Key{Kind: api.KeyDiscrim}},
		{api.Key{Kind: api.KeyClock}, api.Key{}},
		{api.Key{Kind: api.KeyCheck}, api.Key{}},
	} {
		if got, e := keys.Weaken(x.key); got != x.want || e != api.OK {
			t.Errorf("Weaken(%v) = %v, %v, want %v", x.key, got, e, x.want)
		}
	}
}

func TestWeakenRefuses(t *testing.T) {
	for _, k := range mustBeWrong(t) {
		if got, e := keys.Weaken(k); got != (api.Key{}) || e != api.ErrArg {
			t.Errorf("Weaken(%v) = %v, %v, want ErrArg", k, got, e)
		}
	}
}

// weak is what the document says of it.
func weak(k api.Key) api.Key {
	switch k.Kind {
	case 2:
		return node(k.Oid, k.Count, k.Rights|3)
	case 3:
		return page(k.Oid, k.Count, 1)
	case 0, 1, 8:
		return k
	}
	return api.Key{}
}

// less is what the document says of it.
func less(k api.Key, r api.Rights) api.Key {
	switch k.Kind {
	case 2:
		return node(k.Oid, k.Count, k.Rights|r)
	case 3:
		return page(k.Oid, k.Count, k.Rights|r%2)
	}
	return k
}

func TestWeakenAndLessAtAllEdges(t *testing.T) {
	each(func(k api.Key) bool {
		want, e := api.Key{}, api.ErrArg
		if mayBe(k) {
			want, e = weak(k), api.OK
		}
		if got, f := keys.Weaken(k); got != want || f != e {
			t.Errorf("Weaken(%v) = %v, %v", k, got, f)
			return false
		}
		r := api.Rights(uint64(k.Count+k.Call+int64(k.Oid))) & 7
		if e == api.OK {
			want = less(k, r)
		}
		if got, f := keys.Less(k, r); got != want || f != e {
			t.Errorf("Less(%v, %d) = %v, %v", k, r, got, f)
			return false
		}
		return true
	})
}

func TestLess(t *testing.T) {
	for _, x := range []struct {
		key  api.Key
		by   api.Rights
		want api.Key
	}{
		{node(5, 1, 0), 0, node(5, 1, 0)},
		{node(5, 1, 0), api.ReadOnly, node(5, 1, 1)},
		{node(5, 1, 0), api.Weak, node(5, 1, 2)},
		{node(5, 1, 0), api.NoCall, node(5, 1, 4)},
		{node(5, 1, 1), api.NoCall, node(5, 1, 5)},
		{node(5, 1, 7), 0, node(5, 1, 7)},
		{node(5, 1, 0), 7, node(5, 1, 7)},
		{node(5, 1, 3), api.ReadOnly, node(5, 1, 3)},
		{page(3, 1, 0), api.Weak, page(3, 1, 0)},
		{page(3, 1, 0), api.NoCall, page(3, 1, 0)},
		{page(3, 1, 0), 6, page(3, 1, 0)},
		{page(3, 1, 0), api.ReadOnly, page(3, 1, 1)},
		{page(3, 1, 0), 7, page(3, 1, 1)},
		{page(3, 1, 1), 0, page(3, 1, 1)},
		{page(3, 1, 1), 6, page(3, 1, 1)},
	} {
		if got, e := keys.Less(x.key, x.by); got != x.want || e != api.OK {
			t.Errorf("Less(%v, %d) = %v, %v, want %v", x.key, x.by, got, e, x.want)
		}
	}
}

func TestLessByEachSumOfRights(t *testing.T) {
	for _, k := range some() {
		for r := range api.Rights(8) {
			if got, e := keys.Less(k, r); got != less(k, r) || e != api.OK {
				t.Errorf("Less(%v, %d) = %v, %v", k, r, got, e)
			}
		}
	}
}

func TestLessRefuses(t *testing.T) {
	wrongs := []api.Rights{math.MinInt, -8, -7, -1, 8, 9, 15, 16, 1 << 32, math.MaxInt}
	for _, k := range some() {
		for _, r := range wrongs {
			if got, e := keys.Less(k, r); got != (api.Key{}) || e != api.ErrArg {
				t.Errorf("Less(%v, %d) = %v, %v, want ErrArg", k, r, got, e)
			}
		}
	}
	for _, k := range mustBeWrong(t) {
		for _, r := range append(wrongs, 0, 1, 2, 4, 7) {
			if got, e := keys.Less(k, r); got != (api.Key{}) || e != api.ErrArg {
				t.Errorf("Less(%v, %d) = %v, %v, want ErrArg", k, r, got, e)
			}
		}
	}
}

func within(a, b api.Key) bool {
	if !mayBe(a) || !mayBe(b) {
		return false
	}
	if a.Kind == 0 || a == b {
		return true
	}
	alike := a.Kind == b.Kind && a.Oid == b.Oid && a.Count == b.Count
	if !alike || a.Kind != 2 && a.Kind != 3 {
		return false
	}
	for _, r := range []api.Rights{1, 2, 4} {
		if b.Rights&r != 0 && a.Rights&r == 0 {
			return false
		}
	}
	return true
}

func TestWithin(t *testing.T) {
	for _, x := range []struct {
		a, b api.Key
		want bool
	}{
		{node(5, 1, 3), node(5, 1, 1), true},
		{node(5, 1, 1), node(5, 1, 3), false},
		{node(5, 1, 7), node(5, 1, 0), true},
		{node(5, 1, 0), node(5, 1, 7), false},
		{node(5, 1, 1), node(5, 1, 2), false},
		{node(5, 1, 6), node(5, 1, 1), false},
		{node(5, 1, 5), node(5, 1, 5), true},
		{node(5, 2, 3), node(5, 1, 1), false},
		{node(6, 1, 3), node(5, 1, 1), false},
		{page(5, 1, 1), page(5, 1, 0), true},
		{page(5, 1, 0), page(5, 1, 1), false},
		{page(5, 1, 1), page(5, 2, 0), false},
		{page(5, 1, 1), page(4, 1, 0), false},
		{page(5, 1, 1), node(5, 1, 1), false},
		{node(5, 1, 1), page(5, 1, 0), false},
		{node(5, 1, 7), key(api.KeyBank, 5, 1), false},
		{key(api.KeyBank, 5, 1), node(5, 1, 0), false},
		{key(api.KeyBank, 5, 1), key(api.KeyProc, 5, 1), false},
		{key(api.KeyProc, 5, 1), key(api.KeyProc, 5, 1), true},
		{start(5, 1, 1), start(5, 1, 1), true},
		{start(5, 1, 1), start(5, 1, 0), false},
		{resume(5, 1, 1), resume(5, 1, 2), false},
		{resume(5, 1, 1), resume(5, 1, 1), true},
		{number(1), number(1), true},
		{number(1), number(3), false},
		{number(0), api.Key{}, false},
		{api.Key{}, api.Key{}, true},
		{api.Key{}, number(0), true},
		{api.Key{}, node(5, 1, 7), true},
		{api.Key{}, api.Key{Kind: api.KeyCheck}, true},
		{api.Key{Kind: api.KeyClock}, api.Key{Kind: api.KeyCheck}, false},
		{api.Key{Kind: api.KeyClock}, api.Key{Kind: api.KeyClock}, true},
		{node(5, 1, 7), api.Key{}, false},
	} {
		if got := keys.Within(x.a, x.b); got != x.want {
			t.Errorf("Within(%v, %v) = %t", x.a, x.b, got)
		}
	}
}

func TestWithinOfAllPairs(t *testing.T) {
	l := some()
	for _, a := range l {
		for _, b := range l {
			if got, want := keys.Within(a, b), within(a, b); got != want {
				t.Fatalf("Within(%v, %v) = %t", a, b, got)
			}
		}
	}
}

func TestWithinOfWrongKeys(t *testing.T) {
	for _, k := range mustBeWrong(t) {
		if keys.Within(k, k) {
			t.Errorf("%v, which may not be, is within itself", k)
		}
		for _, other := range some() {
			if keys.Within(k, other) || keys.Within(other, k) {
				t.Errorf("%v, which may not be, is within %v, or that within it", k, other)
			}
		}
	}
}

// P3.3

func TestText(t *testing.T) {
	for _, x := range []struct {
		key  api.Key
		want string
	}{
		{api.Key{}, "void"},
		{number(0), "number 0"},
		{number(-12), "number -12"},
		{number(math.MinInt64), "number -9223372036854775808"},
		{number(math.MaxInt64), "number 9223372036854775807"},
		{node(5, 1, 7), "node 5 1 7"},
		{node(0, 0, 0), "node 0 0 0"},
		{node(63, maxCount, 4), "node 63 4294967295 4"},
		{page(3, 1, 0), "page 3 1 0"},
		{page(3, 1, 1), "page 3 1 1"},
		{key(api.KeyBank, 9, 8), "bank 9 8"},
		{key(api.KeyBank, 0, 0), "bank 0 0"},
		{key(api.KeyProc, 10, 20), "proc 10 20"},
		{start(7, 2, -1), "start 7 2 -1"},
		{start(7, 2, 0), "start 7 2 0"},
		{resume(7, 2, 3), "resume 7 2 3"},
		{resume(63, 0, maxCount), "resume 63 0 4294967295"},
		{api.Key{Kind: api.KeyDiscrim}, "discrim"},
		{api.Key{Kind: api.KeyClock}, "clock"},
		{api.Key{Kind: api.KeyCheck}, "check"},
	} {
		if got, e := keys.Text(x.key); got != x.want || e != api.OK {
			t.Errorf("Text(%v) = %q, %v, want %q", x.key, got, e, x.want)
		}
	}
}

func text(k api.Key) string {
	words := []string{kindNames[k.Kind]}
	for _, name := range names(k.Kind) {
		words = append(words, strconv.FormatInt(part(k, name), 10))
	}
	return strings.Join(words, " ")
}

func TestTextAtAllEdges(t *testing.T) {
	each(func(k api.Key) bool {
		want, e := "", api.ErrArg
		if mayBe(k) {
			want, e = text(k), api.OK
		}
		if got, f := keys.Text(k); got != want || f != e {
			t.Errorf("Text(%v) = %q, %v, want %q", k, got, f, want)
			return false
		}
		return true
	})
}

func TestTextRefuses(t *testing.T) {
	for _, k := range mustBeWrong(t) {
		if got, e := keys.Text(k); got != "" || e != api.ErrArg {
			t.Errorf("Text(%v) = %q, %v, want ErrArg", k, got, e)
		}
	}
}

func TestTextsOfKeysAreTheirOwn(t *testing.T) {
	whose := map[string]api.Key{}
	for _, k := range some() {
		s, _ := keys.Text(k)
		if other, ok := whose[s]; ok {
			t.Errorf("%q is of %v and of %v", s, other, k)
		}
		whose[s] = k
	}
}

func sign(n int) int {
	switch {
	case n < 0:
		return -1
	case n > 0:
		return 1
	}
	return 0
}

// order goes by the parts in the order that the document names.
func order(a, b api.Key) int {
	x := []int64{int64(a.Kind), int64(a.Oid), a.Count, a.Call, int64(a.Rights), a.Value}
	y := []int64{int64(b.Kind), int64(b.Oid), b.Count, b.Call, int64(b.Rights), b.Value}
	return slices.Compare(x, y)
}

// Of each two neighbours the first one is ahead by one part, and behind by all of those that count less.
func TestOrderByEachPart(t *testing.T) {
	most := api.Key{Kind: 1, Oid: 1, Count: 1, Call: 1, Rights: 1, Value: 1}
	for i, b := range []api.Key{
		{Kind: 2},
		{Kind: 1, Oid: 2},
		{Kind: 1, Oid: 1, Count: 2},
		{Kind: 1, Oid: 1, Count: 1, Call: 2},
		{Kind: 1, Oid: 1, Count: 1, Call: 1, Rights: 2},
		{Kind: 1, Oid: 1, Count: 1, Call: 1, Rights: 1, Value: 2},
	} {
		if keys.Order(most, b) >= 0 || keys.Order(b, most) <= 0 {
			t.Errorf("part %d: Order = %d, %d", i, keys.Order(most, b), keys.Order(b, most))
		}
	}
}

func TestOrder(t *testing.T) {
	rising := []api.Key{
		{Kind: math.MinInt, Value: 9}, {Kind: -1, Oid: 7},
		{}, {Value: 5}, {Oid: 1},
		number(math.MinInt64), number(-1), number(0), number(math.MaxInt64),
		node(0, 9, 7), node(1, 0, 0), node(1, 0, 7), node(1, 1, 0), node(63, 0, 0),
		page(0, 0, 1), page(5, maxCount, 0),
		key(api.KeyBank, 5, 1), key(api.KeyProc, 2, 1),
		start(1, 1, 9), start(1, 2, math.MinInt64), start(1, 2, -1), start(1, 2, 0), start(2, 0, 0),
		resume(-1, 0, 0), resume(1, 1, 9), resume(1, 2, 0), resume(1, 2, 1), resume(1, 2, math.MaxInt64),
		{Kind: api.KeyDiscrim}, {Kind: api.KeyClock}, {Kind: api.KeyCheck}, {Kind: 11}, {Kind: math.MaxInt},
	}
	for i, a := range rising {
		for j, b := range rising {
			if got := sign(keys.Order(a, b)); got != sign(i-j) {
				t.Errorf("Order(%v, %v) = %d", a, b, got)
			}
		}
	}
}

// Order has no error: keys that may not be have their place, too.
func TestOrderOfAllPairs(t *testing.T) {
	l := append(some(), wrong()...)
	for _, a := range l {
		for _, b := range l {
			got := sign(keys.Order(a, b))
			if got != sign(order(a, b)) || got != -sign(keys.Order(b, a)) || (got == 0) != (a == b) {
				t.Fatalf("Order(%v, %v) = %d", a, b, got)
			}
		}
	}
}

// Numbers so far apart that what is between them is no number.
func TestOrderOfHugeNumbers(t *testing.T) {
	low := api.Key{Kind: math.MinInt, Oid: math.MinInt, Count: math.MinInt64, Call: math.MinInt64, Rights: math.MinInt, Value: math.MinInt64}
	high := api.Key{Kind: math.MaxInt, Oid: math.MaxInt, Count: math.MaxInt64, Call: math.MaxInt64, Rights: math.MaxInt, Value: math.MaxInt64}
	mixed := low
	for i, set := range []func(){
		func() { mixed.Value = high.Value },
		func() { mixed.Rights = high.Rights },
		func() { mixed.Call = high.Call },
		func() { mixed.Count = high.Count },
		func() { mixed.Oid = high.Oid },
		func() { mixed.Kind = high.Kind },
	} {
		was := mixed
		set()
		if keys.Order(was, mixed) >= 0 || keys.Order(mixed, was) <= 0 || keys.Order(mixed, low) <= 0 {
			t.Errorf("Order of huge numbers, part %d", i)
		}
	}
	if mixed != high || keys.Order(low, high) >= 0 || keys.Order(high, low) <= 0 {
		t.Error("Order of huge numbers")
	}
}

// P3.4

func TestWeakOfWeakIsWeak(t *testing.T) {
	for _, k := range some() {
		one, e := keys.Weaken(k)
		two, f := keys.Weaken(one)
		if e != api.OK || f != api.OK || one != two {
			t.Errorf("%v: weak %v (%v), weak of that %v (%v)", k, one, e, two, f)
		}
		object := one.Kind == api.KeyNode || one.Kind == api.KeyPage
		if object && one.Rights&api.ReadOnly == 0 || one.Kind == api.KeyNode && one.Rights&api.Weak == 0 {
			t.Errorf("%v: weak, it is %v, by which something may be changed", k, one)
		}
		if oid, is := keys.Names(one); is && !object || is && oid != k.Oid {
			t.Errorf("%v: weak, it is %v", k, one)
		}
	}
}

func TestWhatIsWeakOrLessIsWithin(t *testing.T) {
	for _, k := range some() {
		w, _ := keys.Weaken(k)
		if keys.Check(w) != api.OK || !keys.Within(w, k) || w != (api.Key{}) && w.Kind != k.Kind {
			t.Errorf("%v: weak, it is %v", k, w)
		}
		for r := range api.Rights(8) {
			l, _ := keys.Less(k, r)
			if keys.Check(l) != api.OK || !keys.Within(l, k) {
				t.Errorf("%v: less by %d, it is %v", k, r, l)
			}
			if again, _ := keys.Less(l, r); again != l {
				t.Errorf("%v: less by %d twice, it is %v", k, r, again)
			}
			weakLess, _ := keys.Weaken(l)
			if !keys.Within(weakLess, w) {
				t.Errorf("%v: less by %d it is weak %v", k, r, weakLess)
			}
		}
	}
}

func TestWithinIsAnOrder(t *testing.T) {
	l := some()
	inside := map[api.Key][]api.Key{}
	for _, b := range l {
		if !keys.Within(b, b) || !keys.Within(api.Key{}, b) {
			t.Errorf("%v: itself, or the void key, is not within", b)
		}
		for _, a := range l {
			if !keys.Within(a, b) {
				continue
			}
			inside[b] = append(inside[b], a)
			if a != b && keys.Within(b, a) {
				t.Errorf("%v and %v are within one another", a, b)
			}
		}
	}
	for _, c := range l {
		for _, b := range inside[c] {
			for _, a := range inside[b] {
				if !keys.Within(a, c) {
					t.Errorf("%v is within %v, that within %v", a, b, c)
				}
			}
		}
	}
}

func TestOrderIsAnOrder(t *testing.T) {
	l := append(some(), mustBeWrong(t)...)
	slices.SortFunc(l, keys.Order)
	l = slices.Compact(l)
	for i, a := range l {
		for _, b := range l[i+1:] {
			if keys.Order(a, b) >= 0 {
				t.Fatalf("%v stands ahead of %v", a, b)
			}
		}
	}
}

// Memory

func TestNothingHandedInIsChanged(t *testing.T) {
	o := api.Object{Kind: api.ObjNode, Count: 1, Calls: 3}
	o.Slots[2], o.Bytes[9] = node(4, 4, 0), 77
	for _, k := range append(some(), wrong()...) {
		given, thing := k, o
		keys.Check(given)
		keys.Names(given)
		keys.Wants(given)
		keys.Counts(given, thing)
		keys.Weaken(given)
		keys.Less(given, 7)
		keys.Less(given, 8)
		keys.Within(given, given)
		keys.Text(given)
		keys.Order(given, given)
		if given != k || thing != o {
			t.Errorf("%v was changed", k)
		}
	}
}

// answers tells all that is answered of a key.
func answers(k api.Key) [11]any {
	oid, is := keys.Names(k)
	w, e := keys.Weaken(k)
	l, f := keys.Less(k, api.Weak)
	s, g := keys.Text(k)
	return [11]any{keys.Check(k), oid, is, keys.Wants(k), w, e, l, f, s, g, keys.Order(k, node(5, 1, 1))}
}

// What is asked of other keys in between, and what is done with answers, is nothing to an answer.
func TestAnswersHangOnArgumentsAlone(t *testing.T) {
	l := append(some(), wrong()...)
	first := map[api.Key][11]any{}
	for _, k := range l {
		first[k] = answers(k)
	}
	slices.Reverse(l)
	for _, k := range l {
		w, _ := keys.Weaken(k)
		w.Oid, w.Rights = 33, 1
		n, _ := keys.Less(k, 0)
		n.Count, n.Kind = 9, 9
		if answers(k) != first[k] {
			t.Errorf("%v: an answer hangs on calls ahead of it", k)
		}
	}
}
