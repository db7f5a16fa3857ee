package nodes_test

import (
	"math"
	"slices"
	"testing"

	"chatelaine/api"
	"chatelaine/nodes"
	"chatelaine/objects"
)

// What the document says of nodes' slots stands here once more, in plain words and numbers of its own.

const (
	lastSlot = 15
	maxCount = 4294967295
	ok       = api.Errno(0)
	errNil   = api.Errno(1)
	errArg   = api.Errno(2)
	errRange = api.Errno(4)
	errKey   = api.Errno(190)
	errRight = api.Errno(191)
)

type slots = [16]api.Key

// world is what a store should have; one of no objects stands for no store.
type world []api.Object

// mayBe tells whether a key may be.
func mayBe(k api.Key) bool {
	if k.Kind < 0 || k.Kind > 10 {
		return false
	}
	bare := api.Key{Kind: k.Kind}
	object := k.Oid >= 0 && k.Oid <= 63 && k.Count >= 0 && k.Count <= maxCount
	switch k.Kind {
	case 0, 8, 9, 10:
		return k == bare
	case 1:
		bare.Value = k.Value
		return k == bare
	}
	bare.Oid, bare.Count = k.Oid, k.Count
	switch k.Kind {
	case 2:
		bare.Rights = k.Rights & 7
	case 3:
		bare.Rights = k.Rights & 1
	case 6:
		bare.Value = k.Value
	case 7:
		bare.Call = k.Call
		object = object && k.Call >= 0 && k.Call <= maxCount
	}
	return object && k == bare
}

func ofAnObject(k api.Key) bool { return k.Kind >= 2 && k.Kind <= 7 }

// counts tells whether a key counts.
func (w world) counts(k api.Key) bool {
	if !mayBe(k) || !ofAnObject(k) {
		return mayBe(k)
	}
	if k.Oid >= len(w) || w[k.Oid].Count != k.Count {
		return false
	}
	if k.Kind == 3 {
		return w[k.Oid].Kind == 2
	}
	return w[k.Oid].Kind == 1 && (k.Kind != 7 || w[k.Oid].Calls == k.Call)
}

// orVoid tells a key that counts, else the void key.
func (w world) orVoid(k api.Key) api.Key {
	if w.counts(k) {
		return k
	}
	return api.Key{}
}

// weak tells a key that may be as a weak key leads to it.
func weak(k api.Key) api.Key {
	switch k.Kind {
	case 2:
		k.Rights |= 3
	case 3:
		k.Rights |= 1
	case 4, 5, 6, 7, 9, 10:
		return api.Key{}
	}
	return k
}

// leads tells what refuses a key by which a node is asked.
func (w world) leads(k api.Key) api.Errno {
	switch {
	case len(w) == 0:
		return errNil
	case k.Kind != 2 || !w.counts(k):
		return errKey
	}
	return ok
}

// changes tells what refuses a key by which a node is to be changed.
func (w world) changes(k api.Key) api.Errno {
	if e := w.leads(k); e != ok {
		return e
	}
	if k.Rights%4 != 0 {
		return errRight
	}
	return ok
}

// told tells what each slot of a node tells by a key that leads to it.
func (w world) told(k api.Key) slots {
	l := w[k.Oid].Slots
	for i := range l {
		l[i] = w.orVoid(l[i])
		if k.Rights/2%2 == 1 {
			l[i] = weak(l[i])
		}
	}
	return l
}

func noSlot(slot int) bool { return slot < 0 || slot > 15 }

func (w world) get(k api.Key, slot int) (api.Key, api.Errno) {
	e := w.leads(k)
	if e == ok && noSlot(slot) {
		e = errRange
	}
	if e != ok {
		return api.Key{}, e
	}
	return w.told(k)[slot], ok
}

func (w world) put(k api.Key, slot int, v api.Key) (api.Key, api.Errno) {
	e := w.changes(k)
	if e == ok && noSlot(slot) {
		e = errRange
	}
	if e == ok && (!mayBe(v) || ofAnObject(v) && v.Oid >= len(w)) {
		e = errArg
	}
	if e != ok {
		return api.Key{}, e
	}
	was := w.told(k)[slot]
	w[k.Oid].Slots[slot] = w.orVoid(v)
	return was, ok
}

func (w world) clear(k api.Key) api.Errno {
	e := w.changes(k)
	if e == ok {
		w[k.Oid].Slots = slots{}
	}
	return e
}

func (w world) clone(to, from api.Key) api.Errno {
	e := w.changes(to)
	if e == ok {
		e = w.leads(from)
	}
	if e == ok {
		w[to.Oid].Slots = w.told(from)
	}
	return e
}

func (w world) all(k api.Key) ([]api.Key, api.Errno) {
	if e := w.leads(k); e != ok {
		return nil, e
	}
	l := w.told(k)
	return l[:], ok
}

// Keys to try

func key(kind api.KeyKind, oid int, count int64) api.Key {
	return api.Key{Kind: kind, Oid: oid, Count: count}
}

func nodeKey(oid int, count int64, r api.Rights) api.Key {
	return api.Key{Kind: 2, Oid: oid, Count: count, Rights: r}
}

func pageKey(oid int, count int64, r api.Rights) api.Key {
	return api.Key{Kind: 3, Oid: oid, Count: count, Rights: r}
}

func bank(oid int, count int64) api.Key { return key(4, oid, count) }

func proc(oid int, count int64) api.Key { return key(5, oid, count) }

func start(oid int, count, badge int64) api.Key {
	return api.Key{Kind: 6, Oid: oid, Count: count, Value: badge}
}

func resume(oid int, count, call int64) api.Key {
	return api.Key{Kind: 7, Oid: oid, Count: count, Call: call}
}

func number(n int64) api.Key { return api.Key{Kind: 1, Value: n} }

func bare(kind api.KeyKind) api.Key { return api.Key{Kind: kind} }

func void() api.Key { return api.Key{} }

// by is a key with other Rights.
func by(k api.Key, r api.Rights) api.Key {
	k.Rights = r
	return k
}

// naming are keys of each kind that names an object, of that Oid and Count; resume keys with that Call.
func naming(oid int, count, call int64) []api.Key {
	l := []api.Key{
		pageKey(oid, count, 0), pageKey(oid, count, 1), bank(oid, count), proc(oid, count),
		start(oid, count, 0), start(oid, count, -9), resume(oid, count, call),
	}
	for r := range api.Rights(8) {
		l = append(l, nodeKey(oid, count, r))
	}
	return l
}

// ofNothing are keys of no object.
func ofNothing() []api.Key {
	return []api.Key{void(), number(0), number(-7), number(math.MinInt64), number(math.MaxInt64), bare(8), bare(9), bare(10)}
}

// wrongKeys are keys that may not be, in whatever store.
func wrongKeys() []api.Key {
	return []api.Key{
		bare(-1), bare(11), bare(12), bare(256), bare(258), bare(1<<32 + 2), bare(math.MinInt), bare(math.MaxInt), key(-2, 1, 3), key(11, 1, 3),
		{Oid: 1}, {Count: 1}, {Call: 1}, {Rights: 1}, {Value: 1},
		{Kind: 1, Oid: 1}, {Kind: 1, Count: 1}, {Kind: 1, Call: 1}, {Kind: 1, Rights: 1},
		{Kind: 8, Value: 1}, {Kind: 9, Oid: 1}, {Kind: 10, Call: 1}, {Kind: 10, Rights: 2},
		nodeKey(-1, 3, 0), nodeKey(64, 3, 0), nodeKey(65, 3, 0), nodeKey(256, 1, 0), nodeKey(1<<32+1, 3, 0), nodeKey(math.MaxInt, 3, 0), nodeKey(math.MinInt, 3, 0),
		nodeKey(0, -1, 0), nodeKey(1, maxCount+1, 0), nodeKey(1, maxCount+4, 0), nodeKey(1, math.MaxInt64, 0), nodeKey(1, math.MinInt64, 0),
		nodeKey(1, 3, -1), nodeKey(1, 3, 8), nodeKey(1, 3, -8), nodeKey(1, 3, 16), nodeKey(1, 3, 256), nodeKey(1, 3, math.MinInt), nodeKey(1, 3, math.MaxInt),
		{Kind: 2, Oid: 1, Count: 3, Call: 1}, {Kind: 2, Oid: 1, Count: 3, Value: 1}, {Kind: 2, Oid: 1, Count: 3, Call: -1},
		pageKey(2, 4, 2), pageKey(2, 4, 4), pageKey(2, 4, 3), pageKey(2, 4, 7), pageKey(2, 4, -1), pageKey(-1, 4, 0), pageKey(64, 0, 0), pageKey(2, -1, 0),
		{Kind: 4, Oid: 1, Count: 3, Rights: 1}, bank(64, 1), bank(-1, 1), {Kind: 5, Oid: 1, Count: 3, Value: 1}, proc(64, 1), proc(0, -1),
		{Kind: 6, Oid: 1, Count: 3, Call: 1}, start(64, 1, 1), {Kind: 6, Oid: 1, Count: 3, Rights: 4},
		resume(6, 6, -1), resume(6, 6, maxCount+1), resume(-1, 6, 7), resume(64, 6, 7), {Kind: 7, Oid: 6, Count: 6, Call: 7, Value: 1},
	}
}

func wrongSlots() []int {
	return []int{-1, 16, -2, 17, 31, 32, -15, -16, 255, 256, 257, 65536, 1 << 32, 1<<32 + 1, -1 << 32, math.MinInt, math.MinInt + 1, math.MaxInt}
}

// Stores to try

// counting are a key for each slot that counts in the town.
func counting() slots {
	return slots{
		number(5), bank(0, 1), nodeKey(0, 1, 0), nodeKey(5, 0, 1), nodeKey(6, 6, 2), nodeKey(1, 3, 4), nodeKey(0, 1, 7), pageKey(2, 4, 0),
		pageKey(7, 0, 1), proc(6, 6), start(6, 6, -1), resume(6, 6, 7), bare(8), bare(9), bare(10), number(math.MinInt64),
	}
}

// countingWeak are these, as they are got by a weak key.
func countingWeak() slots {
	return slots{
		number(5), void(), nodeKey(0, 1, 3), nodeKey(5, 0, 3), nodeKey(6, 6, 3), nodeKey(1, 3, 7), nodeKey(0, 1, 7), pageKey(2, 4, 1),
		pageKey(7, 0, 1), void(), void(), void(), bare(8), void(), void(), number(math.MinInt64),
	}
}

// stale are a key for each slot, of objects of the town, that does not count there.
func stale() slots {
	return slots{
		nodeKey(0, 2, 0), nodeKey(0, 0, 3), pageKey(0, 1, 0), nodeKey(2, 4, 0), bank(2, 4), proc(3, 5), start(4, maxCount, 1), resume(6, 6, 8),
		resume(6, 6, 6), resume(6, 5, 7), pageKey(2, 5, 1), pageKey(1, 3, 0), bank(0, 0), nodeKey(5, maxCount, 4), start(6, 7, 3), nodeKey(3, 5, 2),
	}
}

func filled(o api.Object, from byte) api.Object {
	for i := range o.Bytes {
		o.Bytes[i] = from + byte(i)
	}
	return o
}

func node(count, calls int64, l slots) api.Object {
	return api.Object{Kind: 1, Count: count, Calls: calls, Slots: l}
}

// town are objects of all kinds: 0 a node of no keys, 1 one of keys that count, 5 one of keys that do not, 6 one of a few, of itself, too.
func town() world {
	six := slots{nodeKey(6, 6, 0), nodeKey(6, 6, 2), nodeKey(1, 3, 0), nodeKey(0, 0, 0), resume(6, 6, 7), lastSlot: pageKey(7, 0, 0)}
	return world{
		filled(node(1, 2, slots{}), 9),
		filled(node(3, 0, counting()), 100),
		filled(api.Object{Kind: 2, Count: 4}, 33),
		{Kind: 0, Count: 5},
		{Kind: 3, Count: maxCount},
		filled(node(0, maxCount, stale()), 200),
		filled(node(6, 7, six), 1),
		{Kind: 2, Count: 0},
	}
}

// one is a town's node 1, by its own key.
func one() api.Key { return nodeKey(1, 3, 0) }

func storeOf(t *testing.T, w world) *objects.Store {
	t.Helper()
	s, e := objects.Of(w...)
	if e != ok {
		t.Fatalf("no such store: %v", e)
	}
	return s
}

// none are stores that are not there.
func none() map[string]*objects.Store {
	return map[string]*objects.Store{"nil": nil, "zero": {}}
}

// pair is a store, and beside it what it should have.
type pair struct {
	t    *testing.T
	s    *objects.Store
	want world
}

func pairOf(t *testing.T, w world) *pair {
	t.Helper()
	return &pair{t, storeOf(t, w), slices.Clone(w)}
}

// holds asks that the store has what it should, key by key and byte by byte.
func (p *pair) holds(what string) {
	p.t.Helper()
	if p.s.Size() != len(p.want) {
		p.t.Fatalf("%s: %d objects, want %d", what, p.s.Size(), len(p.want))
	}
	for oid, o := range p.s.All() {
		if o != p.want[oid] {
			p.t.Fatalf("%s: the object %d is %v, want %v", what, oid, o, p.want[oid])
		}
	}
}

func (p *pair) same(what string, k, want api.Key, e, wantE api.Errno) {
	p.t.Helper()
	if k != want || e != wantE {
		p.t.Fatalf("%s: %v, %v, want %v, %v", what, k, e, want, wantE)
	}
	p.holds(what)
}

func (p *pair) refused(what string, e, want api.Errno) {
	p.t.Helper()
	p.same(what, void(), void(), e, want)
}

func (p *pair) get(k api.Key, slot int) {
	p.t.Helper()
	want, wantE := p.want.get(k, slot)
	got, e := nodes.Get(p.s, k, slot)
	p.same("Get", got, want, e, wantE)
}

func (p *pair) put(k api.Key, slot int, v api.Key) {
	p.t.Helper()
	want, wantE := p.want.put(k, slot, v)
	got, e := nodes.Put(p.s, k, slot, v)
	p.same("Put", got, want, e, wantE)
}

func (p *pair) clear(k api.Key) {
	p.t.Helper()
	want := p.want.clear(k)
	p.refused("Clear", nodes.Clear(p.s, k), want)
}

func (p *pair) clone(to, from api.Key) {
	p.t.Helper()
	want := p.want.clone(to, from)
	p.refused("Clone", nodes.Clone(p.s, to, from), want)
}

func (p *pair) all(k api.Key) {
	p.t.Helper()
	want, wantE := p.want.all(k)
	got, e := nodes.All(p.s, k)
	if !slices.Equal(got, want) {
		p.t.Fatalf("All(%v) = %v, want %v", k, got, want)
	}
	p.refused("All", e, wantE)
}

// set puts an object into the store by the store's own call.
func (p *pair) set(oid int, o api.Object) {
	p.t.Helper()
	p.refusedSet(p.s.Put(oid, o))
	p.want[oid] = o
}

func (p *pair) refusedSet(e api.Errno) {
	p.t.Helper()
	if e != ok {
		p.t.Fatalf("the store takes no such object: %v", e)
	}
}

func TestTheKeysToTryAreRight(t *testing.T) {
	w := town()
	for i, k := range counting() {
		if !w.counts(k) || w.orVoid(k) != k {
			t.Errorf("the key %d does not count", i)
		}
	}
	for i, k := range stale() {
		if !mayBe(k) || w.counts(k) || k.Oid >= len(w) {
			t.Errorf("the key %d counts, or may not be", i)
		}
	}
	for i, k := range wrongKeys() {
		if mayBe(k) {
			t.Errorf("the wrong key %d may be", i)
		}
	}
}

// P9.1: the examples

func TestExamples(t *testing.T) {
	w := world{node(1, 0, slots{}), node(1, 0, slots{number(5), bank(0, 1)})}
	p, k := pairOf(t, w), nodeKey(1, 1, 0)
	got, e := nodes.Get(p.s, k, 0)
	p.same("Get(node 1, 0)", got, number(5), e, ok)
	got, e = nodes.Get(p.s, by(k, 2), 1)
	p.same("Get(node 1 weak, 1)", got, void(), e, ok)
	got, e = nodes.Put(p.s, by(k, 1), 0, number(6))
	p.same("Put by a read-only key", got, void(), e, errRight)
	got, e = nodes.Put(p.s, k, 16, number(6))
	p.same("Put into slot 16", got, void(), e, errRange)
	p.want[1].Slots[0] = void()
	got, e = nodes.Put(p.s, k, 0, nodeKey(0, 2, 0))
	p.same("Put of a key that does not count", got, number(5), e, ok)
	got, e = nodes.Get(p.s, k, 0)
	p.same("Get behind it", got, void(), e, ok)
}

// P9.1: Get

func TestGetOfEachSlot(t *testing.T) {
	p := pairOf(t, town())
	for _, r := range []api.Rights{0, 1, 4, 5} {
		for slot, want := range counting() {
			got, e := nodes.Get(p.s, by(one(), r), slot)
			p.same("Get", got, want, e, ok)
		}
	}
}

func TestGetByAWeakKey(t *testing.T) {
	p := pairOf(t, town())
	for _, r := range []api.Rights{2, 3, 6, 7} {
		for slot, want := range countingWeak() {
			got, e := nodes.Get(p.s, by(one(), r), slot)
			p.same("Get by a weak key", got, want, e, ok)
		}
	}
}

func TestGetOfWhatDoesNotCount(t *testing.T) {
	p := pairOf(t, town())
	for r := range api.Rights(8) {
		for slot := range 16 {
			got, e := nodes.Get(p.s, nodeKey(5, 0, r), slot)
			p.same("Get of a key that does not count", got, void(), e, ok)
			got, e = nodes.Get(p.s, nodeKey(0, 1, r), slot)
			p.same("Get of nothing", got, void(), e, ok)
		}
	}
}

func TestGetAtTheEdges(t *testing.T) {
	p := pairOf(t, town())
	for r := range api.Rights(8) {
		for _, slot := range wrongSlots() {
			got, e := nodes.Get(p.s, by(one(), r), slot)
			p.same("Get of no slot", got, void(), e, errRange)
		}
	}
	got, e := nodes.Get(p.s, one(), 0)
	p.same("Get of slot 0", got, number(5), e, ok)
	got, e = nodes.Get(p.s, one(), 15)
	p.same("Get of slot 15", got, number(math.MinInt64), e, ok)
}

// A key that is put counts till its object is given anew, and again if that is undone: Get tells, and leaves what is there.
func TestGetLeavesWhatDoesNotCount(t *testing.T) {
	p := pairOf(t, town())
	was := p.want[0]
	anew, called := was, p.want[6]
	anew.Count, called.Calls = 2, 8
	for range 2 {
		p.set(0, anew)
		p.set(6, called)
		for _, r := range []api.Rights{0, 2} {
			for _, slot := range []int{1, 2, 6, 11} {
				got, e := nodes.Get(p.s, by(one(), r), slot)
				p.same("Get of a key that counts no more", got, void(), e, ok)
			}
			p.all(by(one(), r))
		}
		p.set(0, was)
		p.set(6, town()[6])
		for slot, want := range counting() {
			got, e := nodes.Get(p.s, one(), slot)
			p.same("Get of a key that counts again", got, want, e, ok)
		}
	}
}

// P9.1: Put

func TestPutIntoEachSlot(t *testing.T) {
	for _, r := range []api.Rights{0, 4} {
		for slot := range 16 {
			for _, v := range counting() {
				p := pairOf(t, town())
				was := counting()[slot]
				p.want[1].Slots[slot] = v
				got, e := nodes.Put(p.s, by(one(), r), slot, v)
				p.same("Put", got, was, e, ok)
				got, e = nodes.Get(p.s, one(), slot)
				p.same("Get of what was put", got, v, e, ok)
				got, e = nodes.Put(p.s, by(one(), r), slot, v)
				p.same("Put of what is there", got, v, e, ok)
			}
		}
	}
}

func TestPutOfWhatDoesNotCount(t *testing.T) {
	for i, v := range stale() {
		p := pairOf(t, town())
		for slot, was := range counting() {
			p.want[1].Slots[slot] = void()
			got, e := nodes.Put(p.s, one(), slot, v)
			p.same("Put of a key that does not count", got, was, e, ok)
			got, e = nodes.Put(p.s, one(), slot, number(int64(i)))
			p.want[1].Slots[slot] = number(int64(i))
			p.same("Put behind it", got, void(), e, ok)
		}
	}
}

// What was put as the void key is void from then on, though it would count later.
func TestPutAsTheVoidKeyStaysSo(t *testing.T) {
	p := pairOf(t, town())
	p.put(one(), 3, nodeKey(0, 2, 0))
	p.put(one(), 4, resume(6, 6, 8))
	anew, called := p.want[0], p.want[6]
	anew.Count, called.Calls = 2, 8
	p.set(0, anew)
	p.set(6, called)
	for _, slot := range []int{3, 4} {
		got, e := nodes.Get(p.s, one(), slot)
		p.same("Get of what was put as the void key", got, void(), e, ok)
	}
	p.put(one(), 3, nodeKey(0, 2, 0))
	got, e := nodes.Get(p.s, one(), 3)
	p.same("Get of what counts by now", got, nodeKey(0, 2, 0), e, ok)
}

// Put tells what Get would have told, which of a key that does not count is the void key; those beside it are left as they are.
func TestPutTellsWhatGetWouldHaveTold(t *testing.T) {
	p := pairOf(t, town())
	for slot := range 16 {
		want, _ := nodes.Get(p.s, nodeKey(5, 0, 0), slot)
		p.want[5].Slots[slot] = number(1)
		got, e := nodes.Put(p.s, nodeKey(5, 0, 0), slot, number(1))
		p.same("Put in place of a key that does not count", got, void(), e, ok)
		if want != got {
			t.Errorf("Put tells %v, Get told %v", got, want)
		}
	}
}

func TestPutOfTheNodesOwnKey(t *testing.T) {
	for r := range api.Rights(8) {
		p := pairOf(t, town())
		own := nodeKey(6, 6, r)
		p.want[6].Slots[0] = own
		got, e := nodes.Put(p.s, nodeKey(6, 6, 0), 0, own)
		p.same("Put of the node's own key", got, nodeKey(6, 6, 0), e, ok)
		got, e = nodes.Put(p.s, nodeKey(6, 6, 0), 0, own)
		p.same("Put of it once more", got, own, e, ok)
		p.want[6].Slots[0] = void()
		got, e = nodes.Put(p.s, nodeKey(6, 6, 4), 0, nodeKey(6, 5, 0))
		p.same("Put of one that was its own", got, own, e, ok)
		p.want[6].Slots[4] = resume(6, 6, 7)
		got, e = nodes.Put(p.s, nodeKey(6, 6, 0), 4, resume(6, 6, 7))
		p.same("Put of its resume key", got, resume(6, 6, 7), e, ok)
	}
}

func TestPutOfWhatMayNotBe(t *testing.T) {
	p := pairOf(t, town())
	for _, v := range wrongKeys() {
		for slot := range 16 {
			got, e := nodes.Put(p.s, one(), slot, v)
			p.same("Put of a key that may not be", got, void(), e, errArg)
			got, e = nodes.Put(p.s, nodeKey(5, 0, 4), slot, v)
			p.same("Put of a key that may not be", got, void(), e, errArg)
		}
	}
}

func TestPutOfWhatTheStoreHasNot(t *testing.T) {
	for n := 1; n <= 64; n++ {
		w := make(world, n)
		w[n-1] = node(0, 0, slots{number(3)})
		p := pairOf(t, w)
		for _, oid := range []int{n, n + 1, 63} {
			if oid < n || oid > 63 {
				continue
			}
			for _, v := range append(naming(oid, 0, 0), naming(oid, 7, 1)...) {
				got, e := nodes.Put(p.s, nodeKey(n-1, 0, 0), 0, v)
				p.same("Put of a key of an object that the store has not", got, void(), e, errArg)
			}
		}
		for _, v := range naming(n-1, 0, 0) {
			p.put(nodeKey(n-1, 0, 0), 1, v)
		}
		for _, v := range slices.Concat(naming(0, 0, 0), naming(0, 7, 1), naming(n/2, maxCount, 0)) {
			p.put(nodeKey(n-1, 0, 0), 2, v)
		}
	}
}

func TestPutAtTheEdges(t *testing.T) {
	p := pairOf(t, town())
	for _, slot := range wrongSlots() {
		for _, r := range []api.Rights{0, 4} {
			got, e := nodes.Put(p.s, by(one(), r), slot, number(1))
			p.same("Put into no slot", got, void(), e, errRange)
		}
	}
	p.want[1].Slots[15] = number(1)
	got, e := nodes.Put(p.s, one(), 15, number(1))
	p.same("Put into slot 15", got, number(math.MinInt64), e, ok)
}

// P9.1: Clear

func TestClear(t *testing.T) {
	for _, r := range []api.Rights{0, 4} {
		p := pairOf(t, town())
		for _, k := range []api.Key{nodeKey(0, 1, r), nodeKey(1, 3, r), nodeKey(5, 0, r), nodeKey(6, 6, r)} {
			p.want[k.Oid].Slots = slots{}
			p.refused("Clear", nodes.Clear(p.s, k), ok)
			p.refused("Clear once more", nodes.Clear(p.s, k), ok)
			l, e := nodes.All(p.s, k)
			if !slices.Equal(l, make([]api.Key, 16)) {
				t.Errorf("All of a node that was cleared: %v", l)
			}
			p.refused("All", e, ok)
		}
	}
}

// P9.1: Clone

func TestClone(t *testing.T) {
	for _, to := range []api.Rights{0, 4} {
		for _, from := range []api.Rights{0, 1, 4, 5} {
			p := pairOf(t, town())
			p.want[6].Slots = counting()
			p.refused("Clone", nodes.Clone(p.s, nodeKey(6, 6, to), by(one(), from)), ok)
			p.want[6].Slots = slots{}
			p.refused("Clone of nothing", nodes.Clone(p.s, nodeKey(6, 6, to), nodeKey(0, 1, from)), ok)
		}
		for _, from := range []api.Rights{2, 3, 6, 7} {
			p := pairOf(t, town())
			p.want[6].Slots = countingWeak()
			p.refused("Clone by a weak key", nodes.Clone(p.s, nodeKey(6, 6, to), by(one(), from)), ok)
		}
		for from := range api.Rights(8) {
			p := pairOf(t, town())
			p.want[1].Slots = slots{}
			p.refused("Clone of keys that do not count", nodes.Clone(p.s, by(one(), to), nodeKey(5, 0, from)), ok)
		}
	}
}

func TestCloneOntoItself(t *testing.T) {
	for _, to := range []api.Rights{0, 4} {
		for from := range api.Rights(8) {
			p := pairOf(t, town())
			if from&2 == 2 {
				p.want[1].Slots = countingWeak()
			}
			p.refused("Clone of a node onto itself", nodes.Clone(p.s, by(one(), to), by(one(), from)), ok)
			p.want[5].Slots = slots{}
			p.refused("Clone of what does not count onto itself", nodes.Clone(p.s, nodeKey(5, 0, to), nodeKey(5, 0, from)), ok)
			p.want[6].Slots[3] = void()
			if from&2 == 2 {
				p.want[6].Slots = slots{nodeKey(6, 6, 3), nodeKey(6, 6, 3), nodeKey(1, 3, 3), lastSlot: pageKey(7, 0, 1)}
			}
			p.refused("Clone of a node's own keys onto itself", nodes.Clone(p.s, nodeKey(6, 6, to), nodeKey(6, 6, from)), ok)
		}
	}
}

// What is cloned goes on apart.
func TestCloneGoesOnApart(t *testing.T) {
	p := pairOf(t, town())
	p.clone(nodeKey(0, 1, 0), one())
	p.put(nodeKey(0, 1, 0), 0, number(77))
	p.put(one(), 1, number(88))
	p.clear(one())
	got, e := nodes.Get(p.s, nodeKey(0, 1, 0), 0)
	p.same("Get of a node that was cloned onto", got, number(77), e, ok)
	got, e = nodes.Get(p.s, nodeKey(0, 1, 0), 1)
	p.same("Get of a node that was cloned onto", got, bank(0, 1), e, ok)
}

// P9.1: All

func TestAll(t *testing.T) {
	p := pairOf(t, town())
	for r := range api.Rights(8) {
		want := counting()
		if r&2 == 2 {
			want = countingWeak()
		}
		l, e := nodes.All(p.s, by(one(), r))
		if !slices.Equal(l, want[:]) {
			t.Errorf("All by %d: %v, want %v", r, l, want)
		}
		p.refused("All", e, ok)
		for _, k := range []api.Key{nodeKey(0, 1, r), nodeKey(5, 0, r)} {
			l, e = nodes.All(p.s, k)
			if !slices.Equal(l, make([]api.Key, 16)) {
				t.Errorf("All of keys that do not count: %v", l)
			}
			p.refused("All", e, ok)
		}
	}
}

func TestAllTellsWhatGetTells(t *testing.T) {
	p := pairOf(t, town())
	for r := range api.Rights(8) {
		for _, k := range []api.Key{nodeKey(0, 1, r), nodeKey(1, 3, r), nodeKey(5, 0, r), nodeKey(6, 6, r)} {
			l, _ := nodes.All(p.s, k)
			if len(l) != 16 {
				t.Fatalf("All tells %d keys", len(l))
			}
			for slot, want := range l {
				got, e := nodes.Get(p.s, k, slot)
				p.same("Get of what All told", got, want, e, ok)
			}
		}
	}
}

func TestAllIsNewMemory(t *testing.T) {
	p := pairOf(t, town())
	want := counting()
	first, _ := nodes.All(p.s, one())
	second, _ := nodes.All(p.s, one())
	for i := range first {
		first[i] = number(99)
	}
	_ = append(first[:3], number(98))
	if !slices.Equal(second, want[:]) {
		t.Error("two answers of All share memory")
	}
	p.holds("All's answer changed")
	p.all(one())
	p.put(one(), 0, number(7))
	p.clear(one())
	if !slices.Equal(second, want[:]) {
		t.Error("what All answered goes with the store")
	}
}

// The order of the errors

// calls are the functions, asked by one key; Clone by it as the first one, and as the second one.
func calls(s *objects.Store, k api.Key, slot int, v api.Key) map[string]api.Errno {
	_, get := nodes.Get(s, k, slot)
	_, put := nodes.Put(s, k, slot, v)
	_, all := nodes.All(s, k)
	return map[string]api.Errno{"Get": get, "Put": put, "Clear": nodes.Clear(s, k), "Clone": nodes.Clone(s, k, v), "All": all}
}

// alone asks that beside an error nothing is told.
func alone(t *testing.T, s *objects.Store, k api.Key, slot int, v api.Key) {
	t.Helper()
	if got, e := nodes.Get(s, k, slot); e != ok && got != void() {
		t.Errorf("Get tells %v beside %v", got, e)
	}
	if got, e := nodes.Put(s, k, slot, v); e != ok && got != void() {
		t.Errorf("Put tells %v beside %v", got, e)
	}
	if l, e := nodes.All(s, k); e != ok && len(l) != 0 {
		t.Errorf("All tells %v beside %v", l, e)
	}
}

func TestNoStore(t *testing.T) {
	tried := slices.Concat(wrongKeys(), ofNothing(), naming(0, 0, 0), naming(1, 3, 0), naming(63, maxCount, 1))
	for name, s := range none() {
		for _, k := range tried {
			for _, slot := range append(wrongSlots(), 0, 15) {
				for _, v := range []api.Key{void(), number(1), one(), bare(-1), nodeKey(64, 0, 0)} {
					for what, e := range calls(s, k, slot, v) {
						if e != errNil {
							t.Fatalf("%s: %s(%v, %d, %v): %v, want ErrNil", name, what, k, slot, v, e)
						}
					}
					alone(t, s, k, slot, v)
				}
			}
		}
		if s.Size() != 0 {
			t.Errorf("%s: it is a store now", name)
		}
	}
}

// leadNowhere are keys by which no node of the town is come to.
func leadNowhere() []api.Key {
	l := slices.Concat(wrongKeys(), ofNothing())
	for oid, o := range town() {
		for _, k := range naming(oid, o.Count, o.Calls) {
			if k.Kind != 2 || o.Kind != 1 {
				l = append(l, k)
			}
		}
		for r := range api.Rights(8) {
			l = append(l, nodeKey(oid, (o.Count+1)%maxCount, r), nodeKey(oid, (o.Count+maxCount)%(maxCount+1), r))
		}
	}
	for _, oid := range []int{8, 9, 62, 63} {
		l = slices.Concat(l, naming(oid, 0, 0), naming(oid, 1, 1))
	}
	return l
}

func TestNoKey(t *testing.T) {
	p := pairOf(t, town())
	l := leadNowhere()
	if len(l) < 300 {
		t.Fatalf("only %d keys that lead nowhere", len(l))
	}
	for _, k := range l {
		for _, slot := range []int{0, 15, 16, -1, math.MinInt} {
			for _, v := range []api.Key{number(1), one(), nodeKey(1, 2, 0), bare(-1), nodeKey(8, 0, 0)} {
				for what, e := range calls(p.s, k, slot, v) {
					p.refused(what, e, errKey)
				}
				alone(t, p.s, k, slot, v)
			}
		}
	}
	p.holds("no node key that counts")
}

func TestRights(t *testing.T) {
	for r := range api.Rights(8) {
		k, want := by(one(), r), ok
		if r != 0 && r != 4 {
			want = errRight
		}
		for _, v := range []api.Key{number(1), one(), nodeKey(0, 1, 7), nodeKey(1, 2, 0), bare(-1), nodeKey(8, 0, 0)} {
			for _, slot := range append(wrongSlots(), 0, 15) {
				if want == ok {
					continue
				}
				p := pairOf(t, town())
				got, e := nodes.Put(p.s, k, slot, v)
				p.same("Put", got, void(), e, errRight)
				p.refused("Clear", nodes.Clear(p.s, k), errRight)
				p.refused("Clone", nodes.Clone(p.s, k, v), errRight)
			}
		}
		if e := nodes.Clear(storeOf(t, town()), k); e != want {
			t.Errorf("Clear by %d: %v", r, e)
		}
		if _, e := nodes.Put(storeOf(t, town()), k, 0, number(1)); e != want {
			t.Errorf("Put by %d: %v", r, e)
		}
		if e := nodes.Clone(storeOf(t, town()), k, nodeKey(0, 1, 0)); e != want {
			t.Errorf("Clone by %d: %v", r, e)
		}
	}
}

func TestTheSlotAheadOfTheKeyToBePut(t *testing.T) {
	p := pairOf(t, town())
	for _, slot := range wrongSlots() {
		for _, v := range slices.Concat(wrongKeys(), naming(8, 0, 0), naming(63, 1, 0)) {
			got, e := nodes.Put(p.s, one(), slot, v)
			p.same("Put into no slot of what may not be", got, void(), e, errRange)
		}
	}
}

func TestTheOrderOfClonesErrors(t *testing.T) {
	p := pairOf(t, town())
	nowhere := leadNowhere()
	for _, bad := range nowhere {
		for _, r := range []api.Rights{1, 2, 3, 5, 6, 7} {
			p.refused("Clone onto what is read-only or weak", nodes.Clone(p.s, by(one(), r), bad), errRight)
		}
		for _, r := range []api.Rights{0, 4} {
			p.refused("Clone of what is no node", nodes.Clone(p.s, by(one(), r), bad), errKey)
		}
		for r := range api.Rights(8) {
			p.refused("Clone onto what is no node", nodes.Clone(p.s, bad, by(one(), r)), errKey)
		}
		p.refused("Clone of what is no node onto such", nodes.Clone(p.s, bad, bad), errKey)
	}
}

// P9.2

// All keys, all slots, all that may be put and may not: each answer as the document has it, and the store behind it.
func TestNothingElseIsChanged(t *testing.T) {
	asked := slices.Concat(naming(1, 3, 0), naming(5, 0, maxCount), naming(6, 6, 7), naming(2, 4, 0), naming(3, 5, 0), []api.Key{void(), number(1), nodeKey(1, 2, 0), nodeKey(8, 0, 0), bare(-1)})
	c, d := counting(), stale()
	given := slices.Concat(c[:], d[:], ofNothing(), wrongKeys(), naming(8, 0, 0), naming(6, 6, 7))
	for _, k := range asked {
		p := pairOf(t, town())
		for _, slot := range []int{0, 1, 7, 15, 16, -1, math.MaxInt} {
			p.get(k, slot)
			for _, v := range given {
				p.put(k, slot, v)
			}
		}
		p.all(k)
		for _, other := range asked {
			q := pairOf(t, town())
			q.clone(k, other)
			q.clone(other, k)
			q.clear(other)
			q.all(k)
		}
		p.clear(k)
		p.all(k)
	}
}

// What stays is the whole of a node beside its slots, at its greatest numbers, too.
func TestTheNodeStays(t *testing.T) {
	w := make(world, 64)
	for oid := range w {
		w[oid] = filled(node(int64(oid), maxCount-int64(oid), slots{number(int64(oid)), nodeKey(63-oid, int64(63-oid), 0)}), byte(oid*3))
	}
	w[63].Count, w[63].Calls = maxCount, 0
	for oid, o := range w {
		p := pairOf(t, w)
		k, other := nodeKey(oid, o.Count, 0), nodeKey(63-oid, w[63-oid].Count, 0)
		p.put(k, oid%16, resume(oid, o.Count, o.Calls))
		p.put(k, (oid+1)%16, other)
		p.clone(other, by(k, 2))
		p.all(other)
		p.clear(k)
		if got, _ := p.s.Get(oid); got.Kind != 1 || got.Count != o.Count || got.Calls != o.Calls || got.Bytes != o.Bytes {
			t.Errorf("the node %d is %v", oid, got)
		}
	}
}

func TestAStoreOfOneNode(t *testing.T) {
	p := pairOf(t, world{node(0, 0, slots{})})
	own := nodeKey(0, 0, 0)
	p.put(own, 0, own)
	p.put(own, 1, bank(0, 0))
	p.put(own, 2, resume(0, 0, 0))
	p.put(own, 3, pageKey(0, 0, 0))
	p.put(own, 4, nodeKey(1, 0, 0))
	p.put(own, 5, nodeKey(0, 1, 0))
	p.clone(own, own)
	p.all(by(own, 2))
	p.clone(own, by(own, 2))
	p.all(own)
	p.clear(own)
	p.all(own)
}

// Each of two stores is asked by itself.
func TestStoresGoOnApart(t *testing.T) {
	a, b := pairOf(t, town()), pairOf(t, town())
	other := a.s.Copy()
	a.put(one(), 0, number(1))
	a.clear(nodeKey(6, 6, 0))
	b.clone(one(), nodeKey(0, 1, 0))
	a.holds("another store was changed")
	b.holds("another store was changed")
	c := &pair{t, other, town()}
	c.holds("what was copied ahead was changed")
	c.all(one())
}

// P9.3

// within tells whether a key leads to no more than weak ones may.
func within(k api.Key) bool {
	switch k.Kind {
	case 0, 1, 8:
		return true
	case 2:
		return k.Rights&3 == 3
	case 3:
		return k.Rights == 1
	}
	return false
}

func TestWhatIsGotByAWeakKeyIsWeak(t *testing.T) {
	for _, r := range []api.Rights{2, 3, 6, 7} {
		p := pairOf(t, town())
		reached := []api.Key{by(one(), r), nodeKey(6, 6, r), nodeKey(5, 0, r)}
		for at := 0; at < len(reached); at++ {
			l, e := nodes.All(p.s, reached[at])
			p.refused("All by a weak key", e, ok)
			for slot := range 16 {
				got, e := nodes.Get(p.s, reached[at], slot)
				p.refused("Get by a weak key", e, ok)
				if !within(got) || got != l[slot] {
					t.Fatalf("Get(%v, %d) = %v, All tells %v", reached[at], slot, got, l[slot])
				}
				if got.Kind == 2 && !slices.Contains(reached, got) {
					reached = append(reached, got)
				}
			}
		}
		for _, k := range []api.Key{nodeKey(0, 1, 3), nodeKey(1, 3, 7), nodeKey(5, 0, 3), nodeKey(6, 6, 3)} {
			if !slices.Contains(reached, k) {
				t.Errorf("%v was not come to by keys with %d", k, r)
			}
		}
	}
}

// Three nodes on: node keys stay weak, and what is no node's or page's is not come to.
func TestWeakOfWeak(t *testing.T) {
	p := pairOf(t, world{
		node(1, 0, slots{nodeKey(1, 1, 0), bank(0, 1)}), node(1, 0, slots{nodeKey(2, 1, 4), proc(0, 1)}),
		node(1, 0, slots{pageKey(3, 1, 0), start(0, 1, 7), number(9), resume(0, 1, 0), nodeKey(0, 1, 0)}), {Kind: 2, Count: 1},
	})
	k := nodeKey(0, 1, 2)
	for _, want := range []api.Key{nodeKey(1, 1, 3), nodeKey(2, 1, 7), pageKey(3, 1, 1)} {
		got, e := nodes.Get(p.s, k, 1)
		p.same("Get of what no weak key leads to", got, void(), e, ok)
		if k.Oid != 0 {
			got, e = nodes.Put(p.s, k, 0, void())
			p.same("Put by what a weak key led to", got, void(), e, errRight)
			p.refused("Clear by what a weak key led to", nodes.Clear(p.s, k), errRight)
			p.refused("Clone by what a weak key led to", nodes.Clone(p.s, k, k), errRight)
		}
		got, e = nodes.Get(p.s, k, 0)
		p.same("Get by what a weak key led to", got, want, e, ok)
		k = got
	}
	got, e := nodes.Get(p.s, nodeKey(2, 1, 7), 4)
	p.same("Get of the node that it began with", got, nodeKey(0, 1, 3), e, ok)
	got, e = nodes.Get(p.s, nodeKey(2, 1, 3), 2)
	p.same("Get of a number", got, number(9), e, ok)
}

// What is weak by the clone is weak by the full key of the node that has it.
func TestWhatWasClonedByAWeakKeyIsWeak(t *testing.T) {
	p := pairOf(t, town())
	p.clone(nodeKey(0, 1, 0), by(one(), 2))
	l, _ := nodes.All(p.s, nodeKey(0, 1, 0))
	want := countingWeak()
	if !slices.Equal(l, want[:]) {
		t.Errorf("All of what was cloned by a weak key: %v", l)
	}
	p.clone(nodeKey(6, 6, 0), by(one(), 5))
	l, _ = nodes.All(p.s, nodeKey(6, 6, 0))
	if full := counting(); !slices.Equal(l, full[:]) {
		t.Errorf("All of what was cloned by a read-only key: %v", l)
	}
}

// Many calls in no order

// row is numbers that are the same each time.
func row(from uint32) func(n int) int {
	return func(n int) int {
		from = from*1664525 + 1013904223
		return int(from>>8) % n
	}
}

func pick[T any](next func(n int) int, l []T) T { return l[next(len(l))] }

// someKey is of any kind, of an object that is there or just not, and mostly counts.
func (p *pair) someKey(next func(n int) int) api.Key {
	oid := next(len(p.want) + next(2))
	count, called := int64(next(3)), int64(next(3))
	if oid < len(p.want) && next(6) > 0 {
		count, called = p.want[oid].Count, p.want[oid].Calls
	}
	switch next(8) {
	case 0:
		return pick(next, wrongKeys())
	case 1:
		return pick(next, ofNothing())
	}
	return pick(next, naming(oid, count, called))
}

func (p *pair) someNodeKey(next func(n int) int) api.Key {
	if next(8) == 0 {
		return p.someKey(next)
	}
	oid := next(len(p.want))
	return nodeKey(oid, p.want[oid].Count, pick(next, []api.Rights{0, 0, 0, 0, 4, 4, 1, 2, 3, 5, 6, 7}))
}

func (p *pair) step(next func(n int) int) {
	k, slot := p.someNodeKey(next), next(16)
	if next(12) == 0 {
		slot = pick(next, wrongSlots())
	}
	switch next(12) {
	case 0:
		p.clear(k)
	case 1, 2:
		p.clone(k, p.someNodeKey(next))
	case 3:
		p.all(k)
	case 4, 5:
		p.get(k, slot)
	case 6:
		p.give(next)
	default:
		p.put(k, slot, p.someKey(next))
	}
}

// give gives a number anew, or calls a node, so that keys count no more, or do so again.
func (p *pair) give(next func(n int) int) {
	oid := next(len(p.want))
	o := p.want[oid]
	switch next(6) {
	case 0:
		o = api.Object{Kind: api.ObjKind(next(4)), Count: int64(next(3))}
	case 1, 2:
		o.Count = int64(next(3))
	default:
		if o.Kind != 1 {
			o = node(o.Count, 0, slots{})
		}
		o.Calls = int64(next(3))
	}
	p.set(oid, o)
}

func TestManyCalls(t *testing.T) {
	for _, n := range []int{1, 2, 3, 8, 64} {
		w := make(world, n)
		for oid := range w {
			w[oid] = filled(node(1, int64(oid%3), slots{}), byte(oid))
		}
		p, next := pairOf(t, w), row(uint32(n))
		for range 6000 {
			p.step(next)
		}
	}
}
