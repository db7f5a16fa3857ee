package reach_test

import (
	"cmp"
	"fmt"
	"maps"
	"math"
	"math/big"
	"slices"
	"strings"
	"testing"

	"chatelaine/api"
	"chatelaine/machine"
	"chatelaine/objects"
	"chatelaine/reach"
)

// What the document says of what a node may come to stands here once more, in plain words and numbers of its own. What a machine does is asked of layer 15, which has tests of its own.

const (
	maxCount = 4294967295

	ok       = api.Errno(0)
	errNil   = api.Errno(1)
	errArg   = api.Errno(2)
	errRange = api.Errno(4)

	readOnly = api.Rights(1)
	weak     = api.Rights(2)
	noCall   = api.Rights(4)

	available = 0
	runs      = 1
	waits     = 2

	calls   = api.Mode(1)
	sends   = api.Mode(2)
	returns = api.Mode(3)

	idle    = api.OutKind(1)
	handed  = api.OutKind(2)
	refused = api.OutKind(3)
	told    = api.OutKind(4)

	free    = api.ObjKind(0)
	aNode   = api.ObjKind(1)
	aPage   = api.ObjKind(2)
	retired = api.ObjKind(3)
)

// world is what a store should have.
type world []api.Object

func isOfObject(k api.KeyKind) bool { return k >= 2 && k <= 7 }

// counts tells whether a key counts that may be in the world.
func (w world) counts(k api.Key) bool {
	if !isOfObject(k.Kind) {
		return true
	}
	o := w[k.Oid]
	if o.Count != k.Count {
		return false
	}
	if k.Kind == 3 {
		return o.Kind == aPage
	}
	return o.Kind == aNode && (k.Kind != 7 || o.Calls == k.Call)
}

// asItCounts tells a key that does not count as the void key.
func (w world) asItCounts(k api.Key) api.Key {
	if w.counts(k) {
		return k
	}
	return api.Key{}
}

// weakened tells a key weak.
func weakened(k api.Key) api.Key {
	switch k.Kind {
	case 0, 1, 8:
		return k
	case 2:
		k.Rights |= 3
		return k
	case 3:
		k.Rights = 1
		return k
	}
	return api.Key{}
}

// capOf is a key without its Value.
func capOf(k api.Key) api.Cap {
	return api.Cap{Kind: k.Kind, Oid: k.Oid, Count: k.Count, Call: k.Call, Rights: k.Rights}
}

func caps(l ...api.Key) (all []api.Cap) {
	for _, k := range l {
		all = append(all, capOf(k))
	}
	return all
}

func ahead(a, b api.Cap) int {
	return cmp.Or(cmp.Compare(a.Kind, b.Kind), cmp.Compare(a.Oid, b.Oid), cmp.Compare(a.Count, b.Count), cmp.Compare(a.Call, b.Call), cmp.Compare(a.Rights, b.Rights))
}

// comeTo is what any of these may come to: it goes over all of it till it grows no more.
func (w world) comeTo(oids ...int) []api.Cap {
	set := make(map[api.Cap]bool)
	put := func(k api.Key) {
		if k.Kind > 1 {
			set[capOf(k)] = true
		}
	}
	for _, oid := range oids {
		for _, k := range w[oid].Slots {
			put(w.asItCounts(k))
		}
	}
	for had := -1; had < len(set); {
		had = len(set)
		for _, c := range slices.Collect(maps.Keys(set)) {
			w.leadsTo(c, put)
		}
	}
	return slices.SortedFunc(maps.Keys(set), ahead)
}

func (w world) leadsTo(c api.Cap, put func(api.Key)) {
	if c.Kind != 2 && c.Kind != 5 {
		return
	}
	for _, k := range w[c.Oid].Slots {
		k = w.asItCounts(k)
		if c.Kind == 2 && c.Rights&weak != 0 {
			k = weakened(k)
		}
		put(k)
	}
	if c.Kind == 2 && c.Rights == 0 {
		put(proc(c.Oid, c.Count))
	}
	if c.Kind == 5 {
		put(start(c.Oid, c.Count, 0))
	}
}

// mayBe tells whether a cap may be, as a key of Value 0.
func mayBe(c api.Cap) bool {
	if c.Kind < 0 || c.Kind > 10 {
		return false
	}
	if !isOfObject(c.Kind) {
		return c == api.Cap{Kind: c.Kind}
	}
	most := map[api.KeyKind]api.Rights{2: 7, 3: 1}[c.Kind]
	if c.Kind != 7 && c.Call != 0 || c.Rights < 0 || c.Rights > most {
		return false
	}
	return c.Oid >= 0 && c.Oid < 64 && c.Count >= 0 && c.Count <= maxCount && c.Call >= 0 && c.Call <= maxCount
}

func within(a, b api.Cap) bool {
	if !mayBe(a) || !mayBe(b) {
		return false
	}
	if a.Kind == 0 || a == b {
		return true
	}
	has := a.Rights&b.Rights == b.Rights
	a.Rights, b.Rights = 0, 0
	return (a.Kind == 2 || a.Kind == 3) && a == b && has
}

func withinOne(c api.Cap, l []api.Cap) bool {
	return slices.ContainsFunc(l, func(x api.Cap) bool { return within(c, x) })
}

// news is what is new to a node between two worlds.
func news(was, now world, oid int, parties []int) (l []api.Cap) {
	then := was.comeTo(oid)
	for _, p := range parties {
		then = append(then, was.comeTo(p)...)
	}
	for _, c := range now.comeTo(oid) {
		made := isOfObject(c.Kind) && now[c.Oid].Count > was[c.Oid].Count
		theirs := (c.Kind == 5 || c.Kind == 6 || c.Kind == 7) && slices.Contains(parties, c.Oid)
		if !withinOne(c, then) && !made && !theirs {
			l = append(l, c)
		}
	}
	return l
}

func (w world) running() (l []int) {
	for oid, o := range w {
		if o.Kind == aNode && o.Slots[2] == number(runs) {
			l = append(l, oid)
		}
	}
	return l
}

// mayInvoke tells whether a step may be, and is an invocation.
func mayInvoke(op api.Op) bool {
	for _, r := range op.Sends {
		if r < -1 || r > 11 {
			return false
		}
	}
	return op.Kind == 1 && op.Mode >= 1 && op.Mode <= 3 && len(op.Data) <= 32 && op.Reg >= 0 && op.Reg <= 11
}

// parties are those of a step.
func (w world) parties(op api.Op) []int {
	l := w.running()
	if len(w) < 4 || !mayInvoke(op) || len(l) == 0 {
		return nil
	}
	who := l[chooses(op.Proc, len(l))]
	k := w.asItCounts(w[who].Slots[4+op.Reg])
	if k.Kind == 6 || k.Kind == 7 {
		return []int{who, k.Oid}
	}
	return []int{who}
}

// chooses tells which of n a choice is.
func chooses(choice, n int) int {
	return int(new(big.Int).Mod(big.NewInt(int64(choice)), big.NewInt(int64(n))).Int64())
}

// textOf is a cap as a text, and whether it has one.
func textOf(c api.Cap) (string, api.Errno) {
	if c.Kind < 2 || !mayBe(c) {
		return "", errArg
	}
	text := []string{2: "node", 3: "page", 4: "bank", 5: "proc", 6: "start", 7: "resume", 8: "discrim", 9: "clock", 10: "check"}[c.Kind]
	if isOfObject(c.Kind) {
		text += fmt.Sprint(" ", c.Oid, " ", c.Count)
	}
	switch c.Kind {
	case 2, 3:
		text += fmt.Sprint(" ", int(c.Rights))
	case 6: // its badge
		text += " 0"
	case 7:
		text += fmt.Sprint(" ", c.Call)
	}
	return text, ok
}

// Keys and steps to try

func key(kind api.KeyKind, oid int, count int64) api.Key {
	return api.Key{Kind: kind, Oid: oid, Count: count}
}

func bare(kind api.KeyKind) api.Key { return api.Key{Kind: kind} }

func number(n int64) api.Key { return api.Key{Kind: 1, Value: n} }

func nodeKey(oid int, count int64) api.Key { return key(2, oid, count) }

func pageKey(oid int, count int64) api.Key { return key(3, oid, count) }

func bank(oid int, count int64) api.Key { return key(4, oid, count) }

func proc(oid int, count int64) api.Key { return key(5, oid, count) }

func start(oid int, count, badge int64) api.Key {
	return api.Key{Kind: 6, Oid: oid, Count: count, Value: badge}
}

func resume(oid int, count, call int64) api.Key {
	return api.Key{Kind: 7, Oid: oid, Count: count, Call: call}
}

func discrim() api.Key { return bare(8) }

func clock() api.Key { return bare(9) }

func check() api.Key { return bare(10) }

// with is a key with Rights.
func with(k api.Key, r api.Rights) api.Key {
	k.Rights = r
	return k
}

// naming are keys of each kind that names an object, of that Oid and Count, with all Rights; resume keys with that Call.
func naming(oid int, count, call int64) (l []api.Key) {
	for r := range api.Rights(8) {
		l = append(l, with(nodeKey(oid, count), r))
	}
	return append(l, pageKey(oid, count), with(pageKey(oid, count), 1), bank(oid, count), proc(oid, count), start(oid, count, 0), start(oid, count, -9), resume(oid, count, call))
}

func tick(n int64) api.Op { return api.Op{Kind: 2, Value: n} }

// by is an invocation by a register, without keys.
func by(reg int, mode api.Mode, code int64) api.Op {
	return api.Op{Kind: 1, Reg: reg, Mode: mode, Code: code, Sends: [3]int{-1, -1, -1}}
}

// op is a step, and what is said of it besides.
type op struct{ api.Op }

func (x op) numbered(n int64) op {
	x.Numbered, x.Value = true, n
	return x
}

func (x op) sending(l ...int) op {
	copy(x.Sends[:], l)
	return x
}

func (x op) of(proc int) op {
	x.Proc = proc
	return x
}

// ints are numbers that are small, or would be, taken modulo what less bits hold.
func ints() []int {
	l := []int{math.MaxInt, math.MaxInt - 1, math.MinInt, math.MinInt + 1}
	for n := -14; n <= 14; n++ {
		l = append(l, n, 64+n, 256+n, 1<<16+n, 1<<32+n, -1<<32+n)
	}
	return l
}

// outside are numbers that are not from 0 to below n.
func outside(n int) []int {
	return slices.DeleteFunc(ints(), func(x int) bool { return x >= 0 && x < n })
}

// Stores to try

func node(count, calls int64, slots ...api.Key) api.Object {
	o := api.Object{Kind: aNode, Count: count, Calls: calls}
	copy(o.Slots[:], slots)
	return o
}

// holding is a node with these keys from the slot 5 on.
func holding(count int64, l ...api.Key) api.Object {
	o := node(count, 0)
	copy(o.Slots[5:], l)
	return o
}

// process is a node with a state, and these keys in its registers from 0 on.
func process(count, calls, st int64, registers ...api.Key) api.Object {
	o := node(count, calls, api.Key{}, api.Key{}, number(st))
	copy(o.Slots[4:], registers)
	return o
}

func page(count int64) api.Object {
	return api.Object{Kind: aPage, Count: count, Bytes: [64]byte{5, 6}}
}

func none(kind api.ObjKind, count int64) api.Object { return api.Object{Kind: kind, Count: count} }

func bankOf(count, from, to int64) api.Object { return node(count, 0, number(from), number(to)) }

// with is the world with another object in a place.
func (w world) with(oid int, o api.Object) world {
	w = slices.Clone(w)
	w[oid] = o
	return w
}

// having is the world with a key in a slot.
func (w world) having(oid, slot int, k api.Key) world {
	o := w[oid]
	o.Slots[slot] = k
	return w.with(oid, o)
}

// place is a store, and beside it what it has.
type place struct {
	t *testing.T
	s *objects.Store
	w world
}

func placeOf(t *testing.T, w world) *place {
	t.Helper()
	s, e := objects.Of(w...)
	if e != ok {
		t.Fatalf("no such store: %v", e)
	}
	return &place{t, s, w}
}

// unchanged asks that the store has just what it had.
func (p *place) unchanged(what any) {
	p.t.Helper()
	if p.s.Size() != len(p.w) {
		p.t.Fatalf("%v: %d objects", what, p.s.Size())
	}
	for oid, o := range p.s.All() {
		if o != p.w[oid] {
			p.t.Fatalf("%v: the object %d is %v, was %v", what, oid, o, p.w[oid])
		}
	}
}

// of asks that what a node may come to is told as the document has it.
func (p *place) of(oid int) []api.Cap {
	p.t.Helper()
	got, e := reach.Of(p.s, oid)
	if want := p.w.comeTo(oid); e != ok || !slices.Equal(got, want) {
		p.t.Fatalf("of %d: %v, %v, want %v", oid, got, e, want)
	}
	for i := range got[:max(1, len(got))-1] {
		if ahead(got[i], got[i+1]) >= 0 {
			p.t.Fatalf("of %d: %v is ahead of %v", oid, got[i], got[i+1])
		}
	}
	p.unchanged("of")
	return got
}

// comesTo asks for just those caps, in that order.
func (p *place) comesTo(oid int, want ...api.Key) {
	p.t.Helper()
	if got := p.of(oid); !slices.Equal(got, caps(want...)) {
		p.t.Fatalf("of %d: %v, want %v", oid, got, want)
	}
}

// parties asks that the parties of a step are told as the document has it.
func (p *place) parties(x api.Op) []int {
	p.t.Helper()
	got, want := reach.Parties(p.s, x), p.w.parties(x)
	if !slices.Equal(got, want) {
		p.t.Fatalf("parties of %v: %v, want %v", x, got, want)
	}
	p.unchanged("parties")
	return got
}

// areParties asks for just those.
func (p *place) areParties(x op, want ...int) {
	p.t.Helper()
	if got := p.parties(x.Op); !slices.Equal(got, want) {
		p.t.Fatalf("parties of %v: %v, want %v", x, got, want)
	}
}

// change is one store and another one.
type change struct {
	t        *testing.T
	was, now *place
}

func changeOf(t *testing.T, was, now world) *change {
	t.Helper()
	return &change{t, placeOf(t, was), placeOf(t, now)}
}

// news asks that what is new is told as the document has it.
func (c *change) news(oid int, parties ...int) []api.Cap {
	c.t.Helper()
	given := slices.Clone(parties)
	got, e := reach.New(c.was.s, c.now.s, oid, parties...)
	if want := news(c.was.w, c.now.w, oid, parties); e != ok || !slices.Equal(got, want) {
		c.t.Fatalf("new to %d with %v: %v, %v, want %v", oid, parties, got, e, want)
	}
	if !slices.Equal(given, parties) {
		c.t.Fatalf("new to %d: of the parties %v there are %v", oid, given, parties)
	}
	c.was.unchanged("new: then")
	c.now.unchanged("new: now")
	return got
}

// areNew asks for just those caps, in that order.
func (c *change) areNew(oid int, parties []int, want ...api.Key) {
	c.t.Helper()
	if got := c.news(oid, parties...); !slices.Equal(got, caps(want...)) {
		c.t.Fatalf("new to %d with %v: %v, want %v", oid, parties, got, want)
	}
}

// Examples

func examples() world {
	return world{
		0: none(free, 0),
		1: none(free, 0),
		2: holding(1, with(nodeKey(3, 1), weak)),
		3: node(1, 0, bank(4, 1), pageKey(5, 1)),
		4: node(1, 0),
		5: page(1),
	}
}

func TestTheChaptersExamples(t *testing.T) {
	w := examples()
	placeOf(t, w).comesTo(2, with(nodeKey(3, 1), weak), with(pageKey(5, 1), readOnly))
	w = w.having(2, 5, proc(3, 1)).having(3, 1, api.Key{})
	placeOf(t, w).comesTo(2, bank(4, 1), proc(3, 1), start(3, 1, 0))
}

// stored tells the store of a machine.
func stored(m *machine.Machine) world {
	var w world
	for _, o := range m.Store().All() {
		w = append(w, o)
	}
	return w
}

// steps does steps of a machine that was booted, and tells what its store was ahead of the last one, and behind it.
func steps(t *testing.T, n int, l ...op) (was, now world) {
	t.Helper()
	m, e := machine.Boot(n)
	for _, x := range l {
		was = stored(m)
		var d api.Done
		if d, e = m.Step(x.Op); e != ok || d.Err != ok || d.Answer.Code != 0 {
			t.Fatalf("%v: %v, %v", x, d, e)
		}
	}
	return was, stored(m)
}

// The whole's first, second and third example: what is made, made less, destroyed and made again.
func TestTheWholesExamples(t *testing.T) {
	m, _ := machine.Boot(6)
	booted := []api.Key{bank(1, 1), proc(0, 1), start(0, 1, 0), discrim(), clock(), check()}
	placeOf(t, stored(m)).comesTo(0, booted...)
	placeOf(t, stored(m)).comesTo(1)
	makes := op{by(0, calls, 1)}
	was, now := steps(t, 6, makes)
	placeOf(t, now).comesTo(0, nodeKey(2, 1), bank(1, 1), proc(0, 1), proc(2, 1), start(0, 1, 0), start(2, 1, 0), discrim(), clock(), check())
	changeOf(t, was, now).areNew(0, nil)
	less := op{by(8, calls, 5)}.numbered(1)
	was, now = steps(t, 6, makes, less)
	placeOf(t, now).comesTo(0, with(nodeKey(2, 1), readOnly), bank(1, 1), proc(0, 1), start(0, 1, 0), discrim(), clock(), check())
	changeOf(t, was, now).areNew(0, nil)
	changeOf(t, now, was).areNew(0, nil, nodeKey(2, 1), proc(2, 1), start(2, 1, 0))
	destroys := op{by(0, sends, 3)}.sending(8)
	was, now = steps(t, 6, makes, destroys)
	placeOf(t, now).comesTo(0, booted...)
	changeOf(t, now, was).areNew(0, nil, nodeKey(2, 1), proc(2, 1), start(2, 1, 0))
	_, again := steps(t, 6, makes, destroys, makes)
	placeOf(t, again).comesTo(0, nodeKey(2, 2), bank(1, 1), proc(0, 1), proc(2, 2), start(0, 1, 0), start(2, 2, 0), discrim(), clock(), check())
	changeOf(t, now, again).areNew(0, nil)
	changeOf(t, was, again).areNew(0, nil)
	changeOf(t, again, was).areNew(0, nil, nodeKey(2, 1), proc(2, 1), start(2, 1, 0))
}

// The whole's fourth example: what is got by a weak key.
func TestWhatIsGotByAWeakKey(t *testing.T) {
	w := world{holding(1, with(nodeKey(1, 1), 2)), holding(1, bank(3, 1), nodeKey(2, 1)), node(1, 0, nodeKey(1, 1)), bankOf(1, 0, 3)}
	placeOf(t, w).comesTo(0, with(nodeKey(1, 1), 2), with(nodeKey(1, 1), 3), with(nodeKey(2, 1), 3))
}

// What is no store, and errors in their order

func noStores() map[string]*objects.Store {
	return map[string]*objects.Store{"nil": nil, "zero": {}}
}

func TestNoStore(t *testing.T) {
	there := placeOf(t, examples())
	for what, s := range noStores() {
		for _, oid := range append(ints(), 0, 2, 5) {
			if l, e := reach.Of(s, oid); l != nil || e != errNil {
				t.Fatalf("of a %s store: %v, %v", what, l, e)
			}
			for _, parties := range [][]int{nil, {}, {0}, {2, 2}, {-1}, {oid}, {0, 64}} {
				for _, other := range []*objects.Store{nil, {}, there.s} {
					was, e := reach.New(s, other, oid, parties...)
					now, f := reach.New(other, s, oid, parties...)
					if was != nil || now != nil || e != errNil || f != errNil {
						t.Fatalf("new with a %s store: %v, %v; %v, %v", what, was, e, now, f)
					}
				}
			}
		}
		for _, x := range []api.Op{{}, tick(0), tick(-1), by(0, calls, 1), by(0, sends, 0), by(12, returns, 0), {Kind: 3}} {
			if l := reach.Parties(s, x); l != nil {
				t.Fatalf("parties with a %s store: %v", what, l)
			}
		}
	}
	there.unchanged("no store")
}

func TestOidsThatAreNotThere(t *testing.T) {
	for _, n := range []int{1, 2, 4, 6, 63, 64} {
		w := make(world, n)
		for oid := range w {
			w[oid] = node(1, 0, nodeKey(0, 1), nodeKey(n-1, 1))
		}
		c := changeOf(t, w, w)
		for _, oid := range outside(n) {
			if l, e := reach.Of(c.was.s, oid); l != nil || e != errRange {
				t.Fatalf("of %d of %d: %v, %v", oid, n, l, e)
			}
			for _, asked := range [][]int{{oid}, {oid, 0}, {oid, 0, oid}, {0, oid}, {0, 0, oid}, {0, oid, 0}, {n - 1, 0, n - 1, oid}, {0, 0, 0, oid, 0}} {
				if l, e := reach.New(c.was.s, c.now.s, asked[0], asked[1:]...); l != nil || e != errRange {
					t.Fatalf("new with %v of %d: %v, %v", asked, n, l, e)
				}
			}
		}
		for _, oid := range []int{0, n / 2, n - 1} {
			c.was.of(oid)
			c.areNew(oid, nil)
			c.areNew(oid, []int{n - 1, 0})
		}
	}
}

func TestStoresOfUnlikeSizes(t *testing.T) {
	sizes := []int{1, 2, 3, 4, 63, 64}
	for _, n := range sizes {
		for _, m := range sizes {
			was, now := placeOf(t, make(world, n)), placeOf(t, make(world, m))
			for _, oid := range append(ints(), 0, n-1, m-1, n, m) {
				for _, parties := range [][]int{nil, {0}, {oid}, {-1}, {n, m}} {
					want := errArg
					if n == m && slices.Contains(outside(n), oid) {
						want = errRange
					} else if n == m {
						continue
					}
					if l, e := reach.New(was.s, now.s, oid, parties...); l != nil || e != want {
						t.Fatalf("new to %d with %v, of %d and %d: %v, %v, want %v", oid, parties, n, m, l, e, want)
					}
				}
			}
		}
	}
}

// One that was told of an object ahead of one that the other store has not: sizes are asked ahead of it all.
func TestUnlikeSizesThatHaveTheOid(t *testing.T) {
	less := placeOf(t, world{node(1, 0), node(1, 0)})
	more := placeOf(t, world{node(1, 0), node(1, 0), node(1, 0)})
	for oid := -1; oid <= 3; oid++ {
		for p := -1; p <= 3; p++ {
			a, e := reach.New(less.s, more.s, oid, p)
			b, f := reach.New(more.s, less.s, oid, p)
			if a != nil || b != nil || e != errArg || f != errArg {
				t.Fatalf("new to %d with %d: %v, %v; %v, %v", oid, p, a, e, b, f)
			}
		}
	}
}

// What a node may come to

func TestObjectsWithoutKeys(t *testing.T) {
	for _, o := range []api.Object{none(free, 0), none(free, 7), none(free, maxCount), none(retired, maxCount), none(retired, 0), page(1), page(0), node(0, 0), node(maxCount, maxCount), node(1, 9), process(1, 0, runs), process(2, 1, waits), bankOf(1, 0, 1)} {
		p := placeOf(t, world{o, holding(1, nodeKey(0, o.Count), pageKey(0, o.Count))})
		p.comesTo(0)
		p.of(1)
		if l, e := reach.Of(p.s, 0); l != nil || e != ok {
			t.Errorf("of %v: %v, %v", o, l, e)
		}
	}
}

// hall are objects of all kinds; the node 1 is asked, and has nothing.
func hall() world {
	return world{
		0: node(3, 0),
		1: node(5, 2),
		2: node(4, 1, bank(6, 1), api.Key{}, number(9), pageKey(3, 2), nodeKey(4, 7), discrim(), clock(), check(), start(6, 1, 3), resume(6, 1, 8), proc(5, 2)),
		3: page(2),
		4: node(7, 0, with(pageKey(3, 2), readOnly), nodeKey(0, 3)),
		5: node(2, 0, bank(0, 3)),
		6: process(1, 8, waits),
		7: none(free, 4),
		8: none(retired, maxCount),
		9: none(free, 0),
	}
}

// has asks what the node 1 of the hall may come to, when it has these keys, whatever the slots.
func has(t *testing.T, given []api.Key, want ...api.Key) {
	t.Helper()
	for from := range 17 - len(given) {
		w := hall()
		copy(w[1].Slots[from:], given)
		placeOf(t, w).comesTo(1, want...)
	}
}

func TestEachKeyAlone(t *testing.T) {
	all := []api.Key{bank(6, 1), resume(6, 1, 8), start(6, 1, 3), discrim(), clock(), check(), pageKey(3, 2), with(pageKey(3, 2), readOnly), start(1, 5, 0), start(1, 5, -1), resume(1, 5, 2), bank(1, 5), start(0, 3, math.MaxInt64), resume(0, 3, 0), bank(2, 4), start(2, 4, 1), resume(2, 4, 1), with(nodeKey(0, 3), 1), with(nodeKey(0, 3), 2), with(nodeKey(0, 3), 3), with(nodeKey(0, 3), 4), with(nodeKey(0, 3), 5), with(nodeKey(0, 3), 6), with(nodeKey(0, 3), 7)}
	for _, k := range all {
		has(t, []api.Key{k}, k)
	}
	for _, k := range []api.Key{{}, number(0), number(1), number(-1), number(math.MinInt64), number(2)} {
		has(t, []api.Key{k})
	}
	has(t, []api.Key{nodeKey(0, 3)}, nodeKey(0, 3), proc(0, 3), start(0, 3, 0))
	has(t, []api.Key{proc(0, 3)}, proc(0, 3), start(0, 3, 0))
	has(t, []api.Key{proc(6, 1)}, proc(6, 1), start(6, 1, 0))
	has(t, []api.Key{proc(5, 2)}, bank(0, 3), proc(5, 2), start(5, 2, 0))
}

func TestKeysThatDoNotCount(t *testing.T) {
	for _, oid := range []int{7, 8, 9} {
		for _, k := range naming(oid, hall()[oid].Count, 0) {
			has(t, []api.Key{k})
		}
	}
	for oid, o := range hall() {
		for _, count := range []int64{o.Count + 1, o.Count - 1, 0, maxCount} {
			for _, k := range naming(oid, count, o.Calls) {
				if count >= 0 && count <= maxCount && count != o.Count {
					has(t, []api.Key{k})
				}
			}
		}
	}
	for _, k := range []api.Key{pageKey(2, 4), with(pageKey(0, 3), 1), nodeKey(3, 2), with(nodeKey(3, 2), 7), bank(3, 2), proc(3, 2), start(3, 2, 0), resume(3, 2, 0), resume(6, 1, 7), resume(6, 1, 9), resume(6, 1, 0), resume(1, 5, 1), resume(0, 3, maxCount)} {
		has(t, []api.Key{k})
		has(t, []api.Key{k, clock(), k}, clock())
	}
}

// By a node key that is neither weak nor full: the slots, as they count.
func byTheSlots() []api.Key {
	return []api.Key{nodeKey(0, 3), nodeKey(4, 7), pageKey(3, 2), with(pageKey(3, 2), readOnly), bank(0, 3), bank(6, 1), proc(0, 3), proc(4, 7), proc(5, 2), start(0, 3, 0), start(4, 7, 0), start(5, 2, 0), start(6, 1, 0), resume(6, 1, 8), discrim(), clock(), check()}
}

// sorted are keys in the order of their caps.
func sorted(l ...api.Key) []api.Key {
	l = slices.Clone(l)
	slices.SortFunc(l, func(a, b api.Key) int { return ahead(capOf(a), capOf(b)) })
	return l
}

func TestNodeKeysWithEachRights(t *testing.T) {
	k := nodeKey(2, 4)
	has(t, []api.Key{k}, sorted(append(byTheSlots(), k, proc(2, 4), start(2, 4, 0))...)...)
	for _, r := range []api.Rights{1, 4, 5} {
		has(t, []api.Key{with(k, r)}, sorted(append(byTheSlots(), with(k, r))...)...)
	}
	for _, r := range []api.Rights{2, 3, 6, 7} {
		has(t, []api.Key{with(k, r)}, sorted(with(k, r), with(nodeKey(0, 3), 3), with(nodeKey(4, 7), 3), with(pageKey(3, 2), readOnly), discrim())...)
	}
}

func TestAProcKey(t *testing.T) {
	has(t, []api.Key{proc(2, 4)}, sorted(append(byTheSlots(), proc(2, 4), start(2, 4, 0))...)...)
	has(t, []api.Key{proc(4, 7)}, nodeKey(0, 3), with(pageKey(3, 2), readOnly), proc(0, 3), proc(4, 7), start(0, 3, 0), start(4, 7, 0))
}

// What start, resume and bank keys, and those of no object, lead to is nothing, whatever their node has.
func TestKeysThatLeadToNothing(t *testing.T) {
	for _, k := range []api.Key{start(2, 4, 0), start(2, 4, 7), resume(2, 4, 1), bank(2, 4), discrim(), clock(), check()} {
		has(t, []api.Key{k}, k)
		w := hall().with(0, holding(3, k))
		placeOf(t, w).comesTo(0, k)
		placeOf(t, w.having(1, 0, with(nodeKey(0, 3), noCall))).comesTo(1, sorted(k, with(nodeKey(0, 3), noCall))...)
	}
	// the object 0 is no object of theirs, though their Oid is 0
	w := world{node(0, 0, bank(1, 1)), node(1, 0, discrim(), clock(), check())}
	placeOf(t, w).comesTo(1, discrim(), clock(), check())
	w[0] = page(0)
	placeOf(t, w).comesTo(1, discrim(), clock(), check())
}

func TestCapsThatAreAlmostTheSame(t *testing.T) {
	has(t, []api.Key{start(6, 1, 3), start(6, 1, 4), start(6, 1, -3), start(6, 1, 3)}, start(6, 1, 0))
	has(t, []api.Key{clock(), clock(), number(3), clock()}, clock())
	has(t, []api.Key{proc(0, 3), proc(0, 3)}, proc(0, 3), start(0, 3, 0))
	var all, l []api.Key
	for r := range api.Rights(8) { // by the Rights alone
		all = append(all, with(nodeKey(0, 3), r))
	}
	has(t, all, append(slices.Clone(all), proc(0, 3), start(0, 3, 0))...)
	for _, k := range slices.Backward(all) {
		l = append(l, k)
	}
	has(t, l, append(all, proc(0, 3), start(0, 3, 0))...)
	has(t, []api.Key{with(pageKey(3, 2), readOnly), pageKey(3, 2)}, pageKey(3, 2), with(pageKey(3, 2), readOnly))
	has(t, []api.Key{start(6, 1, 0), start(0, 3, 0), start(5, 2, 0)}, start(0, 3, 0), start(5, 2, 0), start(6, 1, 0)) // by what they name
	has(t, []api.Key{resume(0, 3, 0), start(0, 3, 0), bank(0, 3)}, bank(0, 3), start(0, 3, 0), resume(0, 3, 0))       // by the Kind
	has(t, []api.Key{resume(6, 1, 7), resume(6, 1, 8), resume(6, 1, 9)}, resume(6, 1, 8))                             // by the Call, of which one counts
	has(t, []api.Key{bank(6, 0), bank(6, 1), bank(6, 2)}, bank(6, 1))                                                 // by the Count, likewise
}

// All that a node may come to, by each kind and several objects of each, from slots in which they stand the other way round.
func TestCapsAreToldInOrder(t *testing.T) {
	w := make(world, 64)
	var l []api.Key
	for oid := range w {
		w[oid] = node(int64(oid*7%5), int64(oid*11%3))
		if oid%2 == 0 {
			w[oid] = page(int64(oid * 3 % 7))
		}
		k := naming(oid, w[oid].Count, w[oid].Calls)
		l = append(l, k[oid%8], k[8+oid%2], k[10], k[11], k[12], k[14])
	}
	l = slices.DeleteFunc(append(l, discrim(), clock(), check()), func(k api.Key) bool { return !w.counts(k) })
	slices.Reverse(l)
	for from := 0; from < len(l); from += 5 {
		for i := range 16 { // with a step that has no number in common with how many there are
			w[1].Slots[i] = l[(from+i*17)%len(l)]
		}
		got := placeOf(t, w).of(1)
		if len(got) < 10 {
			t.Fatalf("of 1: only %v", got)
		}
	}
}

// ring are nodes of which each has a key of the next one, the last one of the first one.
func ring(n int, link func(oid int) api.Key) world {
	w := make(world, n)
	for oid := range w {
		w[oid] = holding(1, link((oid+1)%n))
	}
	return w
}

func TestANodeThatHoldsItself(t *testing.T) {
	for r := range api.Rights(8) {
		k := with(nodeKey(0, 1), r)
		want := []api.Key{k}
		switch {
		case r == 0:
			want = append(want, proc(0, 1), start(0, 1, 0))
		case r == weak, r == weak|noCall: // what is got of it by itself
			want = append(want, with(k, r|3))
		}
		placeOf(t, world{holding(1, k)}).comesTo(0, want...)
	}
	placeOf(t, world{holding(1, proc(0, 1))}).comesTo(0, proc(0, 1), start(0, 1, 0))
	placeOf(t, world{holding(1, start(0, 1, 5))}).comesTo(0, start(0, 1, 0))
	placeOf(t, world{holding(1, bank(0, 1))}).comesTo(0, bank(0, 1))
	placeOf(t, world{holding(1, resume(0, 1, 0))}).comesTo(0, resume(0, 1, 0))
}

func TestRings(t *testing.T) {
	for _, n := range []int{1, 2, 3, 4, 63, 64} {
		var full, reads, weaks, procs []api.Key
		for oid := range n {
			full = append(full, nodeKey(oid, 1), proc(oid, 1), start(oid, 1, 0))
			reads = append(reads, with(nodeKey(oid, 1), readOnly))
			weaks = append(weaks, with(nodeKey(oid, 1), 3))
			procs = append(procs, proc(oid, 1), start(oid, 1, 0))
		}
		for _, oid := range []int{0, n / 2, n - 1} {
			placeOf(t, ring(n, func(oid int) api.Key { return nodeKey(oid, 1) })).comesTo(oid, sorted(full...)...)
			placeOf(t, ring(n, func(oid int) api.Key { return with(nodeKey(oid, 1), readOnly) })).comesTo(oid, sorted(reads...)...)
			placeOf(t, ring(n, func(oid int) api.Key { return proc(oid, 1) })).comesTo(oid, sorted(procs...)...)
			placeOf(t, ring(n, func(oid int) api.Key { return with(nodeKey(oid, 1), weak) })).comesTo(oid, sorted(append(weaks, with(nodeKey((oid+1)%n, 1), weak))...)...)
			placeOf(t, ring(n, func(oid int) api.Key { return start(oid, 1, 0) })).comesTo(oid, start((oid+1)%n, 1, 0))
		}
	}
}

// A chain as long as the store: the first node comes to them all, and each one to those behind it.
func TestAChain(t *testing.T) {
	const n = 64
	w := ring(n, func(oid int) api.Key { return with(nodeKey(oid, 1), noCall) })
	w[n-1] = holding(1, bank(0, 1))
	p := placeOf(t, w)
	for oid := range n {
		var want []api.Key
		for next := oid + 1; next < n; next++ {
			want = append(want, with(nodeKey(next, 1), noCall))
		}
		p.comesTo(oid, append(want, bank(0, 1))...)
	}
	// one link that is weak, one that does not count, one that leads to nothing: what is behind it is not what it was
	weakLink := w.having(20, 5, with(nodeKey(21, 1), weak))
	placeOf(t, weakLink).comesTo(62, with(nodeKey(63, 1), noCall), bank(0, 1))
	var want []api.Key
	for next := 19; next < n; next++ {
		r := noCall
		if next == 21 {
			r = weak
		} else if next > 21 {
			r = 7
		}
		want = append(want, with(nodeKey(next, 1), r))
	}
	placeOf(t, weakLink).comesTo(18, want...)
	for _, k := range []api.Key{{}, with(nodeKey(21, 2), noCall), number(21)} {
		placeOf(t, w.having(20, 5, k)).comesTo(18, with(nodeKey(19, 1), noCall), with(nodeKey(20, 1), noCall))
	}
	placeOf(t, w.having(20, 5, start(21, 1, 0))).comesTo(18, with(nodeKey(19, 1), noCall), with(nodeKey(20, 1), noCall), start(21, 1, 0))
}

// Backwards, too: what leads on was found ahead of what it leads to by its Oid, or behind.
func TestAChainTheOtherWayRound(t *testing.T) {
	const n = 64
	w := make(world, n)
	var want []api.Key
	for oid := range n {
		w[oid] = holding(2)
		if oid > 0 {
			w[oid] = holding(2, proc(oid-1, 2))
		}
		if oid < n-1 {
			want = append(want, proc(oid, 2), start(oid, 2, 0))
		}
	}
	placeOf(t, w).comesTo(n-1, sorted(want...)...)
	placeOf(t, w).comesTo(0)
}

func TestRowsOfNodesWithEachRights(t *testing.T) {
	for a := range api.Rights(8) {
		for b := range api.Rights(8) {
			for c := range api.Rights(8) {
				w := world{
					0: holding(1, with(nodeKey(1, 2), a)),
					1: holding(2, with(nodeKey(2, 3), b)),
					2: holding(3, with(nodeKey(3, 4), c), clock()),
					3: holding(4, pageKey(4, 5), bank(0, 1)),
					4: page(5),
				}
				all := placeOf(t, w).of(0)
				strong := (a|b|c)&weak == 0
				if slices.Contains(all, capOf(bank(0, 1))) != strong || slices.Contains(all, capOf(pageKey(4, 5))) != strong || slices.Contains(all, capOf(with(pageKey(4, 5), 1))) == strong {
					t.Fatalf("rights %d, %d, %d: %v", a, b, c, all)
				}
				if slices.Contains(all, capOf(clock())) != ((a|b)&weak == 0) {
					t.Fatalf("rights %d, %d, %d: %v", a, b, c, all)
				}
				if slices.Contains(all, capOf(proc(1, 2))) != (a == 0) || slices.Contains(all, capOf(proc(2, 3))) != (a&weak == 0 && b == 0) || slices.Contains(all, capOf(proc(3, 4))) != ((a|b)&weak == 0 && c == 0) {
					t.Fatalf("rights %d, %d, %d: %v", a, b, c, all)
				}
			}
		}
	}
}

// What is come to by a weak key and by a strong one: both ways count, whichever is found first.
func TestByAWeakKeyAndByAStrongOne(t *testing.T) {
	w := world{
		0: holding(1),
		1: holding(2, bank(3, 4), pageKey(2, 3)),
		2: page(3),
		3: holding(4),
	}
	weakly, strongly := with(nodeKey(1, 2), weak), with(nodeKey(1, 2), readOnly)
	want := []api.Key{strongly, weakly, pageKey(2, 3), with(pageKey(2, 3), readOnly), bank(3, 4)}
	for _, l := range [][]api.Key{{weakly, strongly}, {strongly, weakly}, {weakly, strongly, weakly}} {
		placeOf(t, w.with(0, holding(1, l...))).comesTo(0, want...)
	}
	placeOf(t, w.with(0, holding(1, weakly))).comesTo(0, weakly, with(pageKey(2, 3), readOnly))
	placeOf(t, w.with(0, holding(1, strongly))).comesTo(0, strongly, pageKey(2, 3), bank(3, 4))
	// by a proc key, and by a node key that another node has
	for _, l := range [][]api.Key{{weakly, proc(1, 2)}, {proc(1, 2), weakly}} {
		placeOf(t, w.with(0, holding(1, l...))).comesTo(0, weakly, pageKey(2, 3), with(pageKey(2, 3), readOnly), bank(3, 4), proc(1, 2), start(1, 2, 0))
	}
	v := w.with(0, holding(1, weakly, with(nodeKey(3, 4), noCall))).with(3, holding(4, with(nodeKey(1, 2), noCall)))
	placeOf(t, v).comesTo(0, weakly, with(nodeKey(1, 2), noCall), with(nodeKey(3, 4), noCall), pageKey(2, 3), with(pageKey(2, 3), readOnly), bank(3, 4))
}

// A process's state, space and keeper are slots as any: so is what lies in them.
func TestEachSlotOfAProcess(t *testing.T) {
	for slot := range 16 {
		w := world{holding(1, proc(1, 1)), process(1, 0, runs), holding(1)}
		want := sorted(proc(1, 1), start(1, 1, 0), bank(2, 1))
		placeOf(t, w.having(1, slot, bank(2, 1))).comesTo(0, want...)
		placeOf(t, w.having(1, slot, bank(2, 1)).having(0, 5, with(nodeKey(1, 1), readOnly))).comesTo(0, with(nodeKey(1, 1), readOnly), bank(2, 1))
		placeOf(t, w.having(0, slot, clock())).of(0)
	}
}

// Within

func isWithin(t *testing.T, want bool, c api.Cap, l ...api.Cap) {
	t.Helper()
	given := slices.Clone(l)
	if got := reach.Within(c, l...); got != want {
		t.Fatalf("%v within %v: %v, want %v", c, l, got, want)
	}
	if !slices.Equal(given, l) {
		t.Fatalf("of %v there are %v", given, l)
	}
}

// eachCap are caps of each kind, with all Rights.
func eachCap() []api.Cap {
	return append(caps(naming(5, 1, 3)...), caps(discrim(), clock(), check())...)
}

func TestWithinItself(t *testing.T) {
	for _, c := range eachCap() {
		isWithin(t, false, c)
		isWithin(t, true, c, c)
		isWithin(t, true, c, c, c)
		isWithin(t, false, c, []api.Cap{}...)
	}
}

func TestWithinRights(t *testing.T) {
	for a := range api.Rights(8) {
		for b := range api.Rights(8) {
			isWithin(t, a&b == b, capOf(with(nodeKey(5, 1), a)), capOf(with(nodeKey(5, 1), b)))
		}
	}
	full, less := capOf(pageKey(5, 1)), capOf(with(pageKey(5, 1), 1))
	isWithin(t, true, less, full)
	isWithin(t, false, full, less)
	isWithin(t, false, full, capOf(nodeKey(5, 1)))
	isWithin(t, false, less, capOf(nodeKey(5, 1)))
	isWithin(t, false, capOf(with(nodeKey(5, 1), 1)), full)
	isWithin(t, false, less, capOf(nodeKey(5, 1)), capOf(pageKey(4, 1)), capOf(pageKey(5, 2)))
	isWithin(t, true, less, capOf(nodeKey(5, 1)), capOf(pageKey(4, 1)), full)
}

func TestWithinEachOther(t *testing.T) {
	all := eachCap()
	for _, c := range all { // with another Oid, Count, Call, Kind
		for _, other := range []api.Cap{{Oid: 1}, {Oid: -1}, {Count: 1}, {Count: -1}, {Call: 1}, {Call: -1}, {Kind: 1}, {Kind: -1}} {
			x := api.Cap{Kind: c.Kind + other.Kind, Oid: c.Oid + other.Oid, Count: c.Count + other.Count, Call: c.Call + other.Call, Rights: c.Rights}
			isWithin(t, within(c, x), c, x)
			isWithin(t, within(x, c), x, c)
			if x.Kind > 1 && within(c, x) || c.Kind == x.Kind && within(x, c) {
				t.Fatalf("%v within %v", c, x)
			}
		}
	}
	for _, a := range all {
		for _, b := range all {
			isWithin(t, within(a, b), a, b)
			for _, c := range all {
				isWithin(t, within(a, b) || within(a, c), a, b, c)
			}
		}
	}
}

func TestWithinOneOfMany(t *testing.T) {
	all := eachCap()
	for i, c := range all {
		isWithin(t, true, c, all...)
		isWithin(t, withinOne(c, all[i+1:]), c, all[i+1:]...)
		isWithin(t, withinOne(c, all[:i]), c, all[:i]...)
	}
	var many []api.Cap
	for oid := range 64 {
		many = append(many, capOf(with(nodeKey(oid, 1), readOnly)))
	}
	for oid := range 64 {
		isWithin(t, true, capOf(with(nodeKey(oid, 1), 5)), many...)
		isWithin(t, false, capOf(with(nodeKey(oid, 1), noCall)), many...)
		isWithin(t, false, capOf(with(nodeKey(oid, 1), 5)), slices.Delete(slices.Clone(many), oid, oid+1)...)
	}
}

// What is no cap is asked as the key that it would be: the void key is within each that may be.
func TestWithinOfWhatIsNoCap(t *testing.T) {
	void, zero := api.Cap{}, api.Cap{Kind: 1}
	isWithin(t, false, void)
	isWithin(t, false, zero)
	isWithin(t, true, void, void)
	isWithin(t, true, zero, zero)
	isWithin(t, true, void, zero)
	isWithin(t, false, zero, void)
	for _, c := range eachCap() {
		isWithin(t, true, void, c)
		isWithin(t, false, zero, c)
		isWithin(t, false, c, void)
		isWithin(t, false, c, zero)
		isWithin(t, true, c, void, zero, c)
	}
	all := wrongCaps()
	for _, c := range all {
		for _, other := range append(all[:20:20], c, void, zero) {
			isWithin(t, false, c, other)
			isWithin(t, within(other, c), other, c)
			isWithin(t, within(other, other), other, other)
		}
		for _, other := range eachCap() {
			isWithin(t, false, c, other)
			isWithin(t, false, other, c)
			isWithin(t, true, other, c, other)
			isWithin(t, false, void, c)
		}
	}
}

// wrongCaps are caps that may not be as keys, but for one part each.
func wrongCaps() (l []api.Cap) {
	add := func(c api.Cap) {
		if !mayBe(c) {
			l = append(l, c)
		}
	}
	kinds := []api.KeyKind{-1, -2, 11, 12, 255, 256, 258, 259, 266, 1 << 16, 1<<32 + 2, 1<<32 + 8, -1<<32 + 2, math.MaxInt, math.MinInt, math.MinInt + 2}
	for _, kind := range kinds {
		add(api.Cap{Kind: kind})
		add(api.Cap{Kind: kind, Oid: 5, Count: 1, Call: 3, Rights: 1})
	}
	for _, c := range append(eachCap(), api.Cap{}, api.Cap{Kind: 1}) {
		for _, n := range ints() {
			oid, rights := c, c
			oid.Oid, rights.Rights = n, api.Rights(n)
			add(oid)
			add(rights)
		}
		for _, n := range []int64{-1, -2, 1, 3, maxCount, maxCount + 1, maxCount + 2, maxCount + 4, 1 << 33, 1 << 62, math.MaxInt64, math.MinInt64, math.MinInt64 + 1, math.MinInt64 + 3} {
			count, call := c, c
			count.Count, call.Call = n, n
			add(count)
			add(call)
		}
	}
	return l
}

// Text

func hasText(t *testing.T, c api.Cap, want string) {
	t.Helper()
	if text, e := reach.Text(c); text != want || e != ok {
		t.Fatalf("%v: %q, %v, want %q", c, text, e, want)
	}
}

func TestTexts(t *testing.T) {
	for r := range api.Rights(8) {
		hasText(t, capOf(with(nodeKey(5, 1), r)), "node 5 1 "+string(rune('0'+r)))
	}
	hasText(t, capOf(pageKey(0, 0)), "page 0 0 0")
	hasText(t, capOf(with(pageKey(63, maxCount), 1)), "page 63 4294967295 1")
	hasText(t, capOf(bank(3, 4)), "bank 3 4")
	hasText(t, capOf(proc(62, 17)), "proc 62 17")
	hasText(t, capOf(start(7, 2, -1)), "start 7 2 0")
	hasText(t, capOf(resume(7, 2, 30)), "resume 7 2 30")
	hasText(t, capOf(resume(63, maxCount, maxCount)), "resume 63 4294967295 4294967295")
	hasText(t, capOf(resume(0, 0, 0)), "resume 0 0 0")
	hasText(t, capOf(discrim()), "discrim")
	hasText(t, capOf(clock()), "clock")
	hasText(t, capOf(check()), "check")
}

func TestTextsOfAllCaps(t *testing.T) {
	seen := make(map[string]bool)
	for _, oid := range []int{0, 1, 9, 10, 63} {
		for _, count := range []int64{0, 1, 10, maxCount - 1, maxCount} {
			for _, k := range slices.Concat(naming(oid, count, 0), naming(oid, count, maxCount)[14:], []api.Key{discrim(), clock(), check()}) {
				want, e := textOf(capOf(k))
				if e != ok {
					t.Fatalf("%v: %v", k, e)
				}
				hasText(t, capOf(k), want)
				seen[want] = true
			}
		}
	}
	if len(seen) != 5*5*15+3 {
		t.Errorf("there are %d texts", len(seen))
	}
}

func TestWhatHasNoText(t *testing.T) {
	none := append(wrongCaps(), api.Cap{}, api.Cap{Kind: 1})
	for _, c := range none {
		if text, e := reach.Text(c); text != "" || e != errArg {
			t.Fatalf("%v: %q, %v", c, text, e)
		}
	}
	for _, n := range ints() { // of void ones and numbers each part
		for _, c := range []api.Cap{{Oid: n}, {Count: int64(n)}, {Call: int64(n)}, {Rights: api.Rights(n)}, {Kind: 1, Oid: n}, {Kind: 1, Count: int64(n)}, {Kind: 1, Call: int64(n)}, {Kind: 1, Rights: api.Rights(n)}} {
			if text, e := reach.Text(c); text != "" || e != errArg {
				t.Fatalf("%v: %q, %v", c, text, e)
			}
		}
	}
	if len(none) < 1000 {
		t.Errorf("only %d are none", len(none))
	}
}

// New

// market are objects of which 0, 1 and 2 have different keys; 3 to 7 are what they may have.
func market() world {
	return world{
		0: holding(1, with(nodeKey(3, 1), noCall)),
		1: holding(2, with(nodeKey(4, 2), readOnly), pageKey(5, 3)),
		2: holding(3, proc(7, 2)),
		3: holding(1, bank(6, 4)),
		4: holding(2, clock()),
		5: page(3),
		6: node(4, 0, number(0), number(7)),
		7: process(2, 5, available),
	}
}

func TestTheSameTwice(t *testing.T) {
	w := market()
	c := changeOf(t, w, w)
	for oid := range w {
		for _, parties := range [][]int{nil, {}, {0}, {oid}, {0, 1, 2, 3, 4, 5, 6, 7}, {7, 7, 7}, {oid, 0, oid}} {
			c.areNew(oid, parties)
			if l, e := reach.New(c.was.s, c.was.s, oid, parties...); l != nil || e != ok {
				t.Fatalf("new to %d with %v, by the same store: %v, %v", oid, parties, l, e)
			}
		}
	}
}

// A key more: of the node itself it is new, unless a party could come to it.
func TestAKeyMore(t *testing.T) {
	was := market()
	for slot := range 16 {
		if slot == 5 || slot == 6 { // they have something
			continue
		}
		mine := changeOf(t, was, was.having(0, slot, pageKey(5, 3)))
		mine.areNew(0, nil, pageKey(5, 3))
		mine.areNew(0, []int{0}, pageKey(5, 3))
		mine.areNew(0, []int{2, 3, 4, 5, 6, 7}, pageKey(5, 3))
		mine.areNew(0, []int{1})
		mine.areNew(0, []int{7, 1, 7})
		for _, oid := range []int{1, 2, 3, 4, 5, 6, 7} { // it is nothing to them
			mine.areNew(oid, nil)
			mine.areNew(oid, []int{0, 1})
		}
		theirs := changeOf(t, was, was.having(3, slot, pageKey(5, 3))) // to that the node comes, too
		theirs.areNew(0, nil, pageKey(5, 3))
		theirs.areNew(3, nil, pageKey(5, 3))
		theirs.areNew(0, []int{3}, pageKey(5, 3))
		theirs.areNew(0, []int{1})
		theirs.areNew(3, []int{1})
		theirs.areNew(1, nil)
	}
}

func TestEachKeyMore(t *testing.T) {
	all := sorted(nodeKey(6, 4), with(nodeKey(6, 4), 7), bank(0, 1), proc(0, 1), start(0, 1, 8), resume(7, 2, 5), pageKey(5, 3), with(pageKey(5, 3), 1), discrim(), clock(), check(), with(nodeKey(0, 1), noCall))
	for _, k := range all {
		was := market()
		want := map[api.Key][]api.Key{ // what else it leads to
			nodeKey(6, 4): {nodeKey(6, 4), proc(6, 4), start(6, 4, 0)},
			proc(0, 1):    {proc(0, 1), start(0, 1, 0)},
		}[k]
		if want == nil {
			want = []api.Key{k}
		}
		c := changeOf(t, was, was.having(0, 12, k))
		c.areNew(0, nil, want...)
		c.areNew(0, []int{3}, want...)
		if k != clock() && k.Kind != 3 {
			c.areNew(0, []int{1}, want...)
		} else {
			c.areNew(0, []int{1})
		}
		changeOf(t, c.now.w, was).areNew(0, nil) // a key less is nothing new
	}
	for _, k := range []api.Key{{}, number(7), number(-1), nodeKey(6, 3), pageKey(6, 4), resume(7, 2, 4), resume(7, 2, 6), bank(5, 3)} { // no caps, or none that count
		c := changeOf(t, market(), market().having(0, 12, k))
		c.areNew(0, nil)
		c.areNew(0, []int{0, 7})
	}
	// several at once, told in their order
	was, now := market().with(0, holding(1)), market().with(0, holding(1, start(0, 1, 8), with(pageKey(5, 3), 1), nodeKey(6, 4), clock(), discrim(), with(nodeKey(0, 1), noCall)))
	changeOf(t, was, now).areNew(0, nil, with(nodeKey(0, 1), noCall), nodeKey(6, 4), with(pageKey(5, 3), 1), proc(6, 4), start(0, 1, 0), start(6, 4, 0), discrim(), clock())
}

func TestWhatIsWithinWhatWasComeTo(t *testing.T) {
	for a := range api.Rights(8) {
		for b := range api.Rights(8) {
			was := world{holding(1), holding(1), node(9, 0)}
			had, has := with(nodeKey(2, 9), a), with(nodeKey(2, 9), b)
			want := []api.Key{}
			if b&a != a {
				want = append(want, has)
				if b == 0 {
					want = append(want, proc(2, 9), start(2, 9, 0))
				}
			}
			changeOf(t, was.having(0, 3, had), was.having(0, 7, has)).areNew(0, nil, want...)
			changeOf(t, was.having(1, 3, had), was.having(0, 7, has)).areNew(0, []int{1}, want...)
		}
	}
	was := world{holding(1), holding(1), page(9)}
	full, less := pageKey(2, 9), with(pageKey(2, 9), 1)
	changeOf(t, was.having(0, 3, full), was.having(0, 3, less)).areNew(0, nil)
	changeOf(t, was.having(0, 3, less), was.having(0, 3, full)).areNew(0, nil, full)
	changeOf(t, was.having(1, 3, less), was.having(0, 3, full)).areNew(0, []int{1}, full)
	changeOf(t, was.having(1, 3, full), was.having(0, 3, less)).areNew(0, []int{1})
	changeOf(t, was.having(1, 3, full), was.having(0, 3, less)).areNew(0, nil, less)
	// start keys are caps without their badges
	changeOf(t, was.having(0, 3, start(1, 1, 5)), was.having(0, 3, start(1, 1, 6))).areNew(0, nil)
	changeOf(t, was.having(0, 3, proc(1, 1)), was.having(0, 3, start(1, 1, 6))).areNew(0, nil)
	changeOf(t, was.having(0, 3, start(1, 1, 6)), was.having(0, 3, proc(1, 1))).areNew(0, nil, proc(1, 1))
	changeOf(t, was.having(0, 3, nodeKey(1, 1)), was.having(0, 3, proc(1, 1))).areNew(0, nil)
}

// What could be come to then, by whatever way.
func TestWhatCouldBeComeToThen(t *testing.T) {
	w := market()
	c := changeOf(t, w, w.with(0, holding(1, bank(6, 4))))
	c.areNew(0, nil) // by the node 3
	changeOf(t, w.having(3, 5, api.Key{}), c.now.w).areNew(0, nil, bank(6, 4))
	changeOf(t, w, w.with(2, holding(3, start(7, 2, 9)))).areNew(2, nil)
	far := world{holding(1, nodeKey(1, 1)), holding(1, proc(2, 1)), holding(1, with(nodeKey(3, 1), weak)), holding(1, pageKey(4, 1), bank(0, 1)), page(1), holding(1)}
	changeOf(t, far, far.with(0, holding(1, with(pageKey(4, 1), 1)))).areNew(0, nil)
	changeOf(t, far, far.with(0, holding(1, pageKey(4, 1)))).areNew(0, nil, pageKey(4, 1))
	changeOf(t, far, far.with(0, holding(1, bank(0, 1)))).areNew(0, nil, bank(0, 1))
	changeOf(t, far, far.with(5, holding(1, with(pageKey(4, 1), 1)))).areNew(5, []int{0})
	changeOf(t, far, far.with(5, holding(1, pageKey(4, 1)))).areNew(5, []int{0}, pageKey(4, 1))
	changeOf(t, far, far.with(5, holding(1, pageKey(4, 1)))).areNew(5, []int{0, 3})
	// what a party may come to now is nothing that it could come to then
	changeOf(t, far, far.with(5, holding(1, clock())).with(0, holding(1, clock()))).areNew(5, []int{0}, clock())
	changeOf(t, far.with(0, holding(1, clock())), far.with(5, holding(1, clock()))).areNew(5, []int{0})
	// with a party the node itself could come to what it could: neither is asked for the other's
	changeOf(t, far.with(5, holding(1, clock())), far.with(5, holding(1, check(), clock()))).areNew(5, []int{0}, check())
}

// made has all that names an object of a Count, and the object itself of that Count.
func made(w world, oid int, count int64) world {
	w = slices.Clone(w)
	w[oid].Count = count
	l := naming(oid, count, w[oid].Calls)
	copy(w[0].Slots[:], l)
	return w
}

func TestACountThatIsGreaterThanThen(t *testing.T) {
	for _, o := range []api.Object{node(5, 3), page(5)} {
		was := world{holding(1), o, none(free, 2)}
		for _, count := range []int64{0, 1, 4, 5, 6, 7, maxCount - 1, maxCount} {
			now := made(was, 1, count)
			c := changeOf(t, was, now)
			for _, parties := range [][]int{nil, {0}, {2}, {2, 0, 2}} {
				l := c.news(0, parties...)
				if (len(l) == 0) != (count > 5) {
					t.Fatalf("Count %d with %v: %v", count, parties, l)
				}
				if count <= 5 && o.Kind == aPage && !slices.Equal(l, caps(pageKey(1, count), with(pageKey(1, count), 1))) {
					t.Fatalf("Count %d with %v: %v", count, parties, l)
				}
				if count <= 5 && o.Kind == aNode && len(l) != 12 { // of the node keys 8, and what else names it
					t.Fatalf("Count %d with %v: %v", count, parties, l)
				}
			}
		}
	}
	// free then: what was made of it; with its Count it is not made
	for _, kind := range []api.ObjKind{free, retired} {
		was := world{holding(1), none(kind, 4)}
		changeOf(t, was, made(was.with(1, node(5, 0)), 1, 5)).areNew(0, nil)
		changeOf(t, was, was.with(1, node(4, 0)).having(0, 3, bank(1, 4))).areNew(0, nil, bank(1, 4))
		changeOf(t, was, was.with(1, node(5, 0)).having(0, 3, bank(1, 5))).areNew(0, nil)
	}
}

// Of what names no object nothing is made: the object 0 may be what it likes.
func TestWhatNamesNoObjectIsNotMade(t *testing.T) {
	was := world{node(0, 0), holding(1)}
	for _, count := range []int64{0, 1, 9, maxCount} {
		for _, o := range []api.Object{node(count, 0), page(count), none(free, count)} {
			now := world{o, holding(1, check(), discrim(), clock())}
			changeOf(t, was, now).areNew(1, nil, discrim(), clock(), check())
			changeOf(t, was, now).areNew(1, []int{0}, discrim(), clock(), check())
			changeOf(t, was.having(0, 4, clock()), now).areNew(1, []int{0}, discrim(), check())
			changeOf(t, was.having(1, 4, clock()), now).areNew(1, nil, discrim(), check())
		}
	}
	// what is made is asked of the cap's own object, not of others
	was = world{holding(1), node(3, 0), node(8, 0)}
	now := world{holding(2, bank(1, 3), bank(2, 9)), node(3, 0), node(9, 0)}
	changeOf(t, was, now).areNew(0, nil, bank(1, 3))
	now = world{holding(2, bank(1, 4), bank(2, 7)), node(4, 0), node(7, 0)}
	changeOf(t, was, now).areNew(0, nil, bank(2, 7))
}

func TestKeysOfAParty(t *testing.T) {
	was := world{holding(1), holding(1), process(3, 9, waits), process(3, 9, waits)}
	for i, k := range naming(2, 3, 9) {
		if k.Kind == 3 { // no page
			continue
		}
		now := was.having(0, 12, k)
		c := changeOf(t, was, now)
		alone := []api.Key{k}
		switch {
		case i == 0:
			alone = append(alone, proc(2, 3), start(2, 3, 0))
		case k.Kind == 5:
			alone = append(alone, start(2, 3, 0))
		}
		byTheParty := alone[:1]
		if k.Kind >= 5 {
			byTheParty = nil
		}
		for _, parties := range [][]int{nil, {}, {0}, {1}, {3}, {1, 3, 0}, {3, 3}} {
			c.areNew(0, parties, alone...)
		}
		for _, parties := range [][]int{{2}, {2, 2}, {1, 2}, {2, 0}, {3, 2, 1}, {0, 0, 0, 2}} {
			c.areNew(0, parties, byTheParty...)
		}
	}
	// of the node itself: new, but with itself as a party
	for _, k := range []api.Key{proc(0, 1), start(0, 1, 3), resume(0, 1, 0)} {
		c := changeOf(t, was, was.having(0, 7, k))
		want := sorted(k)
		if k.Kind == 5 {
			want = append(want, start(0, 1, 0))
		}
		c.areNew(0, nil, want...)
		c.areNew(0, []int{1, 2, 3}, want...)
		c.areNew(0, []int{0})
		c.areNew(0, []int{1, 0, 1})
	}
	// what is not of it by its Oid alone: keys of no object, with the object 0 as a party
	c := changeOf(t, was, was.with(1, holding(1, clock(), discrim(), check())))
	c.areNew(1, []int{0}, discrim(), clock(), check())
	c.areNew(1, []int{0, 2, 3}, discrim(), clock(), check())
	// what lies in a party's slots now, and was not come to then, is new all the same
	now := was.having(0, 12, proc(2, 3)).having(2, 8, clock())
	changeOf(t, was, now).areNew(0, []int{2}, clock())
	changeOf(t, was.having(2, 8, clock()), now).areNew(0, []int{2})
}

func TestPartiesThatAreNoNodes(t *testing.T) {
	was := world{holding(1), page(1), none(free, 3), none(retired, 4), holding(2, clock())}
	c := changeOf(t, was, was.having(0, 3, clock()))
	for _, parties := range [][]int{{1}, {2}, {3}, {1, 2, 3}, {0, 1}} {
		c.areNew(0, parties, clock())
		c.areNew(1, parties)
		c.areNew(4, parties)
	}
	c.areNew(0, []int{1, 2, 3, 4})
	// a node that is one now alone, or was one then alone
	c = changeOf(t, was, was.with(2, holding(4, clock())))
	c.areNew(2, nil, clock())
	c.areNew(2, []int{4})
	changeOf(t, c.now.w, was).areNew(2, nil)
	changeOf(t, was.with(0, page(1)), was.having(0, 3, bank(4, 2))).areNew(0, nil, bank(4, 2))
}

func TestManyParties(t *testing.T) {
	was := make(world, 64)
	for oid := range was {
		was[oid] = holding(1, bank(oid, 1))
	}
	now := was.with(0, node(1, 0))
	for i := range 16 {
		now[0].Slots[i] = bank(i*4, 1)
	}
	c := changeOf(t, was, now)
	var all, want []api.Key
	var parties []int
	for i := range 16 {
		all = append(all, bank(i*4, 1))
	}
	want = all[1:]
	c.areNew(0, nil, want...)
	for i := 1; i < 16; i++ {
		parties = append(parties, i*4)
		c.areNew(0, parties, want[i:]...)
		c.areNew(0, slices.Repeat(parties, 30), want[i:]...)
	}
	var every []int
	for oid := range 64 {
		every = append(every, oid)
	}
	c.areNew(0, every)
	c.areNew(0, slices.DeleteFunc(every, func(oid int) bool { return oid == 20 }), bank(20, 1))
}

// Parties

// yard has three that run, 0, 2 and 5, and keys of all kinds in their registers.
func yard() world {
	return world{
		0: process(1, 0, runs, bank(1, 1), start(3, 2, 8), resume(4, 2, 6), proc(0, 1), nodeKey(6, 1), pageKey(7, 1), discrim(), clock(), check(), number(3), start(0, 1, 1), api.Key{}),
		1: bankOf(1, 8, 9),
		2: process(4, 1, runs, resume(4, 2, 5), start(3, 1, 0), start(9, 0, 0), resume(2, 4, 1), start(6, 1, 0), resume(5, 1, maxCount), start(5, 1, 0), with(nodeKey(3, 2), 1), proc(3, 2), start(7, 1, 0), resume(3, 2, 0), start(2, 4, 4)),
		3: process(2, 0, available),
		4: process(2, 6, waits),
		5: process(1, maxCount, runs, start(3, 2, 1)),
		6: node(1, 0),
		7: page(1),
		8: none(free, 0),
		9: none(free, 0),
	}
}

func TestPartiesOfEachRegister(t *testing.T) {
	p := placeOf(t, yard())
	leads := map[[2]int]int{{0, 1}: 3, {0, 2}: 4, {0, 10}: 0, {2, 3}: 2, {2, 4}: 6, {2, 5}: 5, {2, 6}: 5, {2, 10}: 3, {2, 11}: 2, {5, 0}: 3}
	for i, who := range []int{0, 2, 5} {
		for reg := range 12 {
			want := []int{who}
			if to, is := leads[[2]int{who, reg}]; is {
				want = append(want, to)
			}
			for _, mode := range []api.Mode{calls, sends, returns} {
				for _, code := range []int64{0, 1, 2, 3, 6, -1, math.MaxInt64, math.MinInt64} {
					p.areParties(op{by(reg, mode, code)}.of(i), want...)
					p.areParties(op{by(reg, mode, code)}.of(i+3).sending(0, 5, 11).numbered(code), want...)
				}
			}
		}
	}
}

// Orders by which who invokes is changed, destroyed, or runs no more: it is asked ahead of them.
func TestPartiesOfWhoRunsNoMore(t *testing.T) {
	w := yard().having(0, 4, bank(1, 1)).with(1, bankOf(1, 0, 9)).having(0, 15, nodeKey(0, 1))
	w = w.having(2, 4, start(0, 1, 0)).having(0, 14, resume(0, 1, 0))
	p := placeOf(t, w)
	p.areParties(op{by(0, calls, 3)}.sending(11), 0) // it is destroyed
	p.areParties(op{by(0, calls, 6)}, 0)             // all are
	p.areParties(op{by(3, sends, 5)}.numbered(0), 0) // it becomes available
	p.areParties(op{by(3, calls, 2)}.sending(1).numbered(3), 0)
	p.areParties(op{by(0, sends, 1)}, 0)
	p.areParties(op{by(0, calls, 9)}.of(1), 2, 0)
	p.areParties(op{by(10, calls, 9)}, 0, 0)
	p.areParties(op{by(1, returns, 9)}, 0, 3)
}

func TestPartiesOfEachChoice(t *testing.T) {
	p := placeOf(t, yard())
	for _, choice := range append(ints(), math.MaxInt-2, math.MinInt+2) {
		who := []int{0, 2, 5}[chooses(choice, 3)]
		got := p.parties(op{by(1, sends, 0)}.of(choice).Op)
		if len(got) == 0 || got[0] != who {
			t.Fatalf("the choice %d: %v, want %d", choice, got, who)
		}
	}
	p.areParties(op{by(0, calls, 0)}.of(-1), 5, 3)
	p.areParties(op{by(0, calls, 0)}.of(3), 0)
	p.areParties(op{by(0, calls, 0)}.of(-3), 0)
	one := placeOf(t, yard().with(0, process(1, 0, waits)).with(2, page(4)))
	for _, choice := range []int{0, 1, -1, 7, math.MaxInt, math.MinInt} {
		one.areParties(op{by(0, calls, 0)}.of(choice), 5, 3)
		one.areParties(op{by(1, calls, 0)}.of(choice), 5)
	}
}

func TestNoParties(t *testing.T) {
	p := placeOf(t, yard())
	for _, n := range []int64{0, 1, 5, 1 << 40, 1<<40 + 1, -1, math.MaxInt64, math.MinInt64} { // ticks
		p.areParties(op{tick(n)})
		p.areParties(op{api.Op{Kind: 2, Reg: 1, Mode: calls, Proc: 1, Value: n}})
	}
	for _, x := range wrongOps() {
		p.areParties(x)
	}
	idles := yard().with(0, process(1, 0, waits)).with(2, process(4, 1, available)).with(5, process(1, 0, 3))
	for _, st := range []int64{0, 2, 3, -1, 1<<32 + 1} {
		for choice := -2; choice < 3; choice++ {
			placeOf(t, idles.with(5, process(1, 0, st))).areParties(op{by(0, calls, 1)}.of(choice))
		}
	}
}

func wrongOps() (l []op) {
	good := op{by(1, calls, 1)}
	for _, kind := range []api.OpKind{0, -1, 3, 4, 256, 257, 1<<32 + 1, -1<<32 + 1, math.MaxInt, math.MinInt, math.MinInt + 1} {
		x := good
		x.Kind = kind
		l = append(l, x)
	}
	for _, mode := range []api.Mode{0, -1, 4, 5, 257, 258, 1<<32 + 1, math.MaxInt, math.MinInt, math.MinInt + 1} {
		x := good
		x.Mode = mode
		l = append(l, x)
	}
	for _, n := range outside(12) {
		x := good
		x.Reg = n
		l = append(l, x)
		for i := range 3 {
			if n != -1 {
				x = good
				x.Sends[i] = n
				l = append(l, x, x.numbered(1))
			}
		}
	}
	for _, n := range []int{33, 34, 64, 255, 256, 288, 1 << 16} {
		x := good
		x.Data = strings.Repeat("a", n)
		l = append(l, x)
		x.Data = strings.Repeat("\u00e4", n)
		l = append(l, x)
	}
	return l
}

// Of fewer than 4 objects there is no machine.
func TestPartiesBySize(t *testing.T) {
	for n := 1; n <= 64; n++ {
		w := make(world, n)
		w[0] = process(1, 0, runs, start(0, 1, 0), clock())
		if n > 3 {
			w[0].Slots[4] = start(n-1, 1, 0)
			w[n-1] = node(1, 0)
		}
		p := placeOf(t, w)
		if n < 4 {
			p.areParties(op{by(0, calls, 0)})
			p.areParties(op{by(1, sends, 0)})
			continue
		}
		p.areParties(op{by(0, calls, 0)}, 0, n-1)
		p.areParties(op{by(1, sends, 0)}, 0)
	}
}

func TestPartiesOfEachLengthOfData(t *testing.T) {
	p := placeOf(t, yard())
	for n := range 33 {
		x := op{by(1, calls, 1)}
		x.Data = strings.Repeat("\xff", n)
		p.areParties(x, 0, 3)
	}
}

// P16.3: steps of a machine

// life is a machine of whose steps none has anything that is new to anybody, with the parties of that step.
type life struct {
	t    *testing.T
	m    *machine.Machine
	came map[string]int // what came how often
}

func (l *life) does(x api.Op) (api.Done, api.Errno) {
	l.t.Helper()
	was := placeOf(l.t, stored(l.m))
	parties := was.parties(x)
	d, e := l.m.Step(x)
	c := &change{l.t, was, placeOf(l.t, stored(l.m))}
	if d.Out == handed || d.Out == refused || d.Out == told {
		if len(parties) == 0 || parties[0] != d.Proc || (len(parties) == 2) == (d.Out == told) {
			l.t.Fatalf("%v: %v with the parties %v", x, d, parties)
		}
	} else if parties != nil {
		l.t.Fatalf("%v: %v with the parties %v", x, d, parties)
	}
	l.notes(d)
	for oid := range was.w {
		if all := c.news(oid, parties...); len(all) != 0 {
			l.t.Fatalf("%v: %v is new to %d with %v", x, all, oid, parties)
		}
		l.counts(c, oid, parties)
	}
	return d, e
}

// notes counts what was done.
func (l *life) notes(d api.Done) {
	switch {
	case d.Out == handed:
		l.came["handed"]++
	case d.Out == refused:
		l.came["refused"]++
	case d.Out == told && d.Answer.Code == 0:
		l.came["told"]++
	case d.Out == told:
		l.came["told an error"]++
	}
}

// counts counts what a step has that would be new, were it not for its parties, or for what was made.
func (l *life) counts(c *change, oid int, parties []int) {
	now, then := c.now.w.comeTo(oid), c.was.w.comeTo(oid)
	for _, cap := range now {
		if isOfObject(cap.Kind) && c.now.w[cap.Oid].Count > c.was.w[cap.Oid].Count {
			l.came["made"]++
		} else if !withinOne(cap, then) {
			l.came["a party's"]++
			if slices.Contains(parties, cap.Oid) && cap.Kind == 7 {
				l.came["a party's resume key"]++
			}
		}
	}
	for i, whose := range []string{"the first party's", "the second party's"}[:len(parties)] {
		if len(news(c.was.w, c.now.w, oid, slices.Delete(slices.Clone(parties), i, i+1))) > 0 {
			l.came[whose]++
		}
	}
}

// is asks for just that outcome, and that a told answer's Code is 0.
func (l *life) is(x op, out api.OutKind) {
	l.t.Helper()
	if d, e := l.does(x.Op); d.Out != out || d.Answer.Code != 0 || e != ok {
		l.t.Fatalf("%v: %v, %v", x, d, e)
	}
}

// errs asks for an answer that is an error.
func (l *life) errs(x op) {
	l.t.Helper()
	if d, e := l.does(x.Op); d.Out != told || d.Answer.Code == 0 || e != ok {
		l.t.Fatalf("%v: %v, %v", x, d, e)
	}
}

// now asks what a node may come to, at last.
func (l *life) now(oid int, want ...api.Key) {
	l.t.Helper()
	placeOf(l.t, stored(l.m)).comesTo(oid, want...)
}

func bornWith(t *testing.T, n int) *life {
	t.Helper()
	m, e := machine.Boot(n)
	if e != ok {
		t.Fatalf("not booted: %v", e)
	}
	return &life{t, m, make(map[string]int)}
}

// What is made, made less, handed on, destroyed and made again, by all that a machine has that was booted. By the proc key (register 4) the registers are put, for a call's answer takes 8 to 11.
func TestALifeByHand(t *testing.T) {
	l := bornWith(t, 9)
	keep := func(reg int) { l.is(op{by(4, sends, 2)}.sending(8).numbered(int64(reg)), told) }
	l.is(op{by(0, calls, 1)}, told) // node 2 1
	keep(5)
	l.is(op{by(5, calls, 6)}, told) // its proc key
	keep(6)
	l.is(op{by(6, calls, 5)}.numbered(available), told)
	l.is(op{by(6, calls, 3)}.numbered(7), told) // a start key of it
	keep(7)
	l.is(op{by(0, calls, 2)}, told) // page 3 1
	keep(3)
	l.is(op{by(5, calls, 2)}.sending(3).numbered(15), told) // in the node's slot 15
	l.is(op{by(0, calls, 1)}, told)                         // node 4 1
	keep(1)
	l.is(op{by(5, calls, 2)}.sending(1).numbered(14), told) // in the node's slot 14
	l.is(op{by(1, calls, 2)}.sending(5).numbered(0), told)  // and the other way round
	l.is(op{by(5, calls, 5)}.numbered(2), told)             // the node 2, by a weak key
	l.is(op{by(1, sends, 2)}.sending(8).numbered(1), told)
	l.is(op{by(1, sends, 4)}.sending(5), told)  // all of the node 2's slots in the node 4
	l.is(op{by(3, calls, 5)}.numbered(1), told) // the page, read-only
	l.is(op{tick(5)}, 5)
	l.is(op{by(7, calls, 1)}.sending(8, 2, 7), handed) // to the process 2: that, the clock, its own start key
	l.now(2, with(pageKey(3, 1), 1), start(2, 1, 0), resume(0, 1, 0), clock())
	l.is(op{by(9, sends, 1)}, told)                         // it asks the time
	l.is(op{by(11, sends, 9)}.sending(8, -1, 11), handed)   // and answers, by the resume key, with the page and that resume key
	l.errs(op{by(10, calls, 0)})                            // which counts no more
	l.is(op{by(10, returns, 0)}.of(1), handed)              // its own start key: it runs on
	l.is(op{by(0, calls, 3)}.sending(1), told)              // the node 4 is destroyed
	l.is(op{by(0, calls, 1)}, told)                         // node 4 2
	l.is(op{by(5, calls, 2)}.sending(8).numbered(13), told) // in the slot 13 of the node 2
	l.is(op{by(0, calls, 4)}.numbered(2), told)             // a bank of the last two
	keep(1)
	l.is(op{by(6, calls, 5)}.numbered(available), told)
	l.is(op{by(7, sends, 2)}.sending(1, -1, 2), handed) // to the process 2
	l.is(op{by(8, calls, 1)}.of(1), told)               // that one makes a node of it
	l.is(op{by(8, returns, 3)}.of(1), told)             // clears it, and is available
	l.is(op{by(6, calls, 1)}.numbered(4), told)         // what it made is got by its proc key
	l.is(op{by(6, calls, 3)}.numbered(9), told)
	l.is(op{by(0, calls, 6)}, told) // all is razed
	l.errs(op{by(7, calls, 0)})     // the start key counts no more
	l.now(0, bank(1, 1), proc(0, 1), start(0, 1, 0), clock())
	l.is(op{by(0, calls, 1)}, told) // node 2 2
	l.now(0, nodeKey(2, 2), bank(1, 1), proc(0, 1), proc(2, 2), start(0, 1, 0), start(2, 2, 0), clock())
	l.is(op{by(4, returns, 5)}.numbered(available), told)
	l.is(op{by(0, calls, 1)}, idle)
	for _, what := range []string{"made", "a party's", "handed", "told", "told an error", "a party's resume key", "the first party's"} {
		if l.came[what] == 0 {
			t.Errorf("%s never came", what)
		}
	}
}

// A resume key whose Call was ahead of its process: by an answer it counts, and is the party's own.
func TestAResumeKeyThatCountsLater(t *testing.T) {
	w := world{
		process(1, 0, runs, resume(1, 1, 4)),
		process(1, 4, waits, resume(1, 1, 5), start(3, 1, 1)),
		holding(1, resume(1, 1, 5), resume(1, 1, 4)),
		holding(1, nodeKey(2, 1)),
	}
	for _, mode := range []api.Mode{calls, sends, returns} {
		m, _ := machine.Of(placeOf(t, w).s, 0)
		l := &life{t, m, make(map[string]int)}
		placeOf(t, w).comesTo(2, resume(1, 1, 4))
		l.is(op{by(0, mode, 1)}, handed)
		l.now(2, resume(1, 1, 5))
		changeOf(t, w, stored(m)).areNew(2, []int{0}, resume(1, 1, 5))
		changeOf(t, w, stored(m)).areNew(3, nil, resume(1, 1, 5))
		changeOf(t, w, stored(m)).areNew(2, []int{1})
	}
}

// Many steps in no order

// chance is numbers that are the same each time.
func chance(from uint32) func(n int) int {
	return func(n int) int {
		from = from*1664525 + 1013904223
		return int(from>>8) % n
	}
}

func pick[T any](next func(n int) int, l ...T) T { return l[next(len(l))] }

// someWorld is mostly nodes and processes, of which the first one runs.
func someWorld(next func(n int) int, n int) world {
	w := make(world, n)
	for oid := range w {
		count, calls := int64(next(3)), int64(next(3))
		w[oid] = pick(next, process(count, calls, runs), process(count, calls, available), process(count, calls, available), process(count, calls, waits), node(count, calls), node(count, calls), node(count, calls), page(count), none(free, count), bankOf(count, int64(next(n)), int64(n-1)))
	}
	w[0] = process(1, 0, runs)
	for oid := range w {
		if w[oid].Kind == aNode && w[oid].Slots[1].Kind != 1 {
			for range next(14) {
				w[oid].Slots[3+next(13)] = w.someKey(next)
			}
		}
	}
	return w
}

// someKey is of any kind; mostly it counts, and leads on.
func (w world) someKey(next func(n int) int) api.Key {
	oid := next(len(w))
	o := w[oid]
	switch {
	case next(10) == 0:
		return pick(next, api.Key{}, number(int64(next(20)-2)), discrim(), clock(), check())
	case next(10) == 0:
		return pick(next, naming(oid, int64(next(4)), int64(next(4)))...)
	case o.Kind == aPage:
		return with(pageKey(oid, o.Count), api.Rights(next(2)))
	case o.Kind == free:
		return nodeKey(oid, o.Count+1) // it counts as soon as it is made
	case o.Slots[1].Kind == 1:
		return pick(next, bank(oid, o.Count), nodeKey(oid, o.Count))
	case o.Slots[2] == number(waits) && next(2) == 0:
		return resume(oid, o.Count, o.Calls+int64(next(2)))
	case o.Slots[2] == number(available) && next(2) == 0:
		return start(oid, o.Count, int64(next(9)))
	}
	return pick(next, nodeKey(oid, o.Count), with(nodeKey(oid, o.Count), api.Rights(next(8))), with(nodeKey(oid, o.Count), 2), with(nodeKey(oid, o.Count), noCall), proc(oid, o.Count), start(oid, o.Count, 3), resume(oid, o.Count, o.Calls))
}

// something is mostly a register of a process in which something is.
func (w world) something(next func(n int) int, who int) int {
	reg := next(12)
	for range 5 {
		if w.asItCounts(w[who].Slots[4+reg]) == (api.Key{}) {
			reg = next(12)
		}
	}
	return reg
}

// someOp is mostly an invocation by a register that has something, of what that may do.
func (w world) someOp(next func(n int) int) api.Op {
	l := w.running()
	if len(l) == 0 || next(20) == 0 {
		return pick(next, tick(int64(next(300))), tick(-1), api.Op{Kind: 3}, api.Op{}, by(12, calls, 0), by(0, 4, 0), by(0, calls, 0))
	}
	x := op{by(0, pick(next, calls, calls, calls, calls, sends, sends, sends, sends, sends, pick(next, sends, returns)), int64(1+next(6)))}.of(next(9) - 4)
	who := l[chooses(x.Proc, len(l))]
	x.Reg = w.something(next, who)
	x = x.sending(w.something(next, who), w.something(next, who), next(13)-1)
	if k := w[who].Slots[4+x.Reg].Kind; k < 6 && next(8) > 0 {
		x = x.numbered(int64(next(18) - 2))
		switch k {
		case 4:
			x.Code = pick[int64](next, 1, 1, 2, 2, 3, 4, 5, 6)
		case 5:
			x.Code = pick[int64](next, 1, 1, 2, 2, 3, 3, 5)
		case 8, 9, 10:
			x.Code = 1
		}
	}
	return x.Op
}

func TestNothingIsNewAlongManySteps(t *testing.T) {
	came := make(map[string]int)
	for i := range 240 {
		next := chance(uint32(i))
		l := bornWith(t, 4+next(8))
		if i%3 > 0 {
			l.m, _ = machine.Of(placeOf(t, someWorld(next, pick(next, 4, 5, 6, 8, 11))).s, int64(next(100)))
		}
		l.came = came
		for range 30 {
			if d, _ := l.does(stored(l.m).someOp(next)); d.Out == idle {
				break
			}
		}
	}
	for what, least := range map[string]int{"handed": 80, "refused": 300, "told": 900, "told an error": 900, "made": 100, "a party's": 300, "a party's resume key": 80, "the first party's": 100, "the second party's": 30} {
		if came[what] < least {
			t.Errorf("%s came only %d times", what, came[what])
		}
	}
}

func TestOfManyWorlds(t *testing.T) {
	most := 0
	for i := range 250 {
		next := chance(uint32(1000 + i))
		p := placeOf(t, someWorld(next, pick(next, 2, 5, 9, 20, 64)))
		for oid := range p.w {
			if oid < 12 {
				most = max(most, len(p.of(oid)))
			}
		}
	}
	if most < 150 {
		t.Errorf("at most there came %d", most)
	}
}

// changed is a world in which some things are other ones.
func (w world) changed(next func(n int) int) world {
	w = slices.Clone(w)
	for range 1 + next(6) {
		oid := next(len(w))
		o := &w[oid]
		switch {
		case next(5) == 0:
			*o = pick(next, node(o.Count+1, 0), page(o.Count+1), none(free, o.Count), node(o.Count, o.Calls), node(max(o.Count, 1)-1, 0), page(o.Count))
		case o.Kind == aNode && next(6) == 0:
			o.Calls++
		case o.Kind == aNode && next(6) == 0:
			*o = w[next(len(w))]
		case o.Kind == aNode:
			o.Slots[next(16)] = w.someKey(next)
		}
	}
	return w
}

func TestNewOfManyWorlds(t *testing.T) {
	some, none := 0, 0
	for i := range 400 {
		next := chance(uint32(5000 + i))
		was := someWorld(next, pick(next, 2, 5, 9, 14))
		now := was.changed(next)
		if next(5) == 0 {
			now = someWorld(next, len(was))
		}
		c := changeOf(t, was, now)
		for oid := range was {
			var parties []int
			for range next(4) {
				parties = append(parties, next(len(was)))
			}
			if len(c.news(oid, parties...)) > 0 {
				some++
			} else {
				none++
			}
		}
	}
	if some < 400 || none < 400 {
		t.Errorf("something was new %d times, nothing %d times", some, none)
	}
}

func TestPartiesInManyWorlds(t *testing.T) {
	came := make(map[int]int)
	for i := range 200 {
		next := chance(uint32(9000 + i))
		p := placeOf(t, someWorld(next, pick(next, 2, 3, 4, 4, 5, 9, 14)))
		for range 20 {
			came[len(p.parties(p.w.someOp(next)))]++
		}
	}
	for n := range 3 {
		if came[n] < 200 {
			t.Errorf("%d parties came only %d times", n, came[n])
		}
	}
}

// P16.4

func includes(l []api.Cap, c api.Cap) bool { return slices.Contains(l, c) }

// A key more, in each slot that has nothing: no less is come to, and what that key is, too.
func TestMoreKeysMoreCaps(t *testing.T) {
	for i := range 40 {
		next := chance(uint32(20000 + i))
		w := someWorld(next, pick(next, 3, 6, 10))
		oid := next(len(w))
		if w[oid].Kind != aNode {
			continue
		}
		was := placeOf(t, w).of(oid)
		for slot, had := range w[oid].Slots {
			if w.asItCounts(had) != (api.Key{}) && had.Kind != 1 {
				continue
			}
			for range 4 {
				k := w.someKey(next)
				now := placeOf(t, w.having(oid, slot, k)).of(oid)
				for _, c := range was {
					if !includes(now, c) {
						t.Fatalf("with %v in the slot %d of %d: no %v", k, slot, oid, c)
					}
				}
				if w.asItCounts(k).Kind > 1 && !includes(now, capOf(k)) {
					t.Fatalf("%v in the slot %d of %d is not come to", k, slot, oid)
				}
			}
		}
	}
}

// isWeak tells whether a cap is as it is when it is made weak.
func isWeak(c api.Cap) bool {
	return c.Kind == 2 && c.Rights&3 == 3 || c.Kind == 3 && c.Rights == 1 || c.Kind == 8
}

// By one weak key alone: all behind it is weak.
func TestByAWeakKeyAlone(t *testing.T) {
	came := 0
	for i := range 250 {
		next := chance(uint32(30000 + i))
		w := someWorld(next, pick(next, 3, 6, 10))
		to := next(len(w))
		if w[to].Kind != aNode {
			continue
		}
		k := with(nodeKey(to, w[to].Count), pick[api.Rights](next, 2, 3, 6, 7))
		w[0] = node(1, 0)
		w[0].Slots[next(16)] = k
		if to == 0 {
			k.Count = 1
			w[0].Slots = [16]api.Key{k}
		}
		all := placeOf(t, w).of(0)
		if !includes(all, capOf(k)) {
			t.Fatalf("no %v: %v", k, all)
		}
		for _, c := range all {
			if c != capOf(k) && !isWeak(c) {
				t.Fatalf("by %v alone: %v", k, c)
			}
			if c.Kind != 8 && c != capOf(k) {
				came++
			}
		}
	}
	if came < 300 {
		t.Errorf("only %d came", came)
	}
}

// In rows of several nodes one weak key is enough.
func TestAWeakKeyInARow(t *testing.T) {
	for at := range 6 {
		for _, r := range []api.Rights{2, 3, 6, 7} {
			w := make(world, 8)
			for oid := range w {
				w[oid] = holding(1, with(nodeKey((oid+1)%7, 1), noCall), pageKey(7, 1), bank(0, 1), clock(), discrim())
			}
			w[7] = page(1)
			w[at] = holding(1, with(nodeKey(at+1, 1), r))
			for _, c := range placeOf(t, w).of(at) {
				if !isWeak(c) && c != capOf(with(nodeKey(at+1, 1), r)) {
					t.Fatalf("by the weak key of %d: %v", at+1, c)
				}
			}
		}
	}
}

// What is handed in, and what is told

func TestAnswersAreNewMemory(t *testing.T) {
	p := placeOf(t, hall().with(1, node(5, 2, nodeKey(2, 4), clock())))
	first, second := p.of(1), p.of(1)
	for i := range first {
		first[i] = api.Cap{Kind: 99}
	}
	_ = append(first, api.Cap{Kind: 98})
	if !slices.Equal(second, p.of(1)) || !slices.Equal(second, p.w.comeTo(1)) {
		t.Errorf("what was told before has changed: %v", second)
	}
	c := changeOf(t, hall(), p.w)
	first, second = c.news(1), c.news(1)
	for i := range first {
		first[i] = api.Cap{Kind: 99}
	}
	if len(second) == 0 || !slices.Equal(second, c.news(1)) {
		t.Errorf("what was told before has changed: %v", second)
	}
	y := placeOf(t, yard())
	a, b := y.parties(by(1, calls, 0)), y.parties(by(1, calls, 0))
	a[0], a[1] = 77, 78
	if !slices.Equal(b, []int{0, 3}) || !slices.Equal(y.parties(by(1, calls, 0)), b) {
		t.Errorf("what was told before has changed: %v", b)
	}
}

func TestSpareRoomIsLeft(t *testing.T) {
	room := []int{1, 2, 1, 77, 78, 79}
	c := changeOf(t, market(), market().having(0, 9, pageKey(5, 3)).having(0, 10, bank(0, 1)))
	for n := range 4 {
		c.news(0, room[:n]...)
		if !slices.Equal(room, []int{1, 2, 1, 77, 78, 79}) {
			t.Fatalf("of the parties there are %v", room)
		}
	}
	caps := eachCap()
	given := slices.Clone(caps)
	for n := range caps {
		reach.Within(given[len(caps)-1-n], caps[:n]...)
		reach.Within(api.Cap{}, caps[:n]...)
	}
	if !slices.Equal(caps, given) {
		t.Errorf("of the caps there are %v", caps)
	}
}

// What is told behind a change is what there is then: nothing is kept.
func TestNothingIsKept(t *testing.T) {
	p := placeOf(t, market())
	first := p.of(0)
	p.w = p.w.having(3, 5, check())
	if e := p.s.Put(3, p.w[3]); e != ok {
		t.Fatal(e)
	}
	if second := p.of(0); slices.Equal(first, second) || !includes(second, capOf(check())) {
		t.Errorf("%v, then %v", first, second)
	}
	c := changeOf(t, market(), market())
	c.areNew(0, nil)
	c.now.w = c.now.w.having(3, 5, check())
	c.now.s.Put(3, c.now.w[3])
	c.areNew(0, nil, check())
	c.was.w = c.was.w.having(0, 6, check())
	c.was.s.Put(0, c.was.w[0])
	c.areNew(0, nil)
}

// Many parties, and many caps that are asked, are told in good time.
func TestLongLists(t *testing.T) {
	w := make(world, 64)
	for oid := range w {
		w[oid] = process(1, 0, available)
		for i := range 12 {
			w[oid].Slots[4+i] = naming((oid+i*5)%64, 1, 0)[i%8]
		}
	}
	c := changeOf(t, w, w)
	parties := slices.Repeat([]int{5, 9, 63, 0}, 5000)
	if l, e := reach.New(c.was.s, c.now.s, 7, parties...); l != nil || e != ok {
		t.Errorf("%v, %v", l, e)
	}
	all := slices.Repeat(eachCap(), 5000)
	if reach.Within(capOf(bank(9, 9)), all...) || !reach.Within(capOf(bank(9, 9)), append(all, capOf(bank(9, 9)))...) {
		t.Errorf("not within")
	}
}
