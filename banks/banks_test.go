package banks_test

import (
	"math"
	"slices"
	"testing"

	"chatelaine/api"
	"chatelaine/banks"
	"chatelaine/objects"
)

// What the document says of banks stands here once more, in plain words and numbers of its own.

const (
	maxCount = 4294967295

	ok       = api.Errno(0)
	errNil   = api.Errno(1)
	errArg   = api.Errno(2)
	errRange = api.Errno(4)
	errNone  = api.Errno(5)
	errKey   = api.Errno(190)
	errBank  = api.Errno(220)
	errFull  = api.Errno(221)

	free    = api.ObjKind(0)
	aNode   = api.ObjKind(1)
	aPage   = api.ObjKind(2)
	retired = api.ObjKind(3)
)

// world is what a store should have; one of no objects stands for no store.
type world []api.Object

// mayBe tells whether a key may be.
func mayBe(k api.Key) bool {
	if k.Kind < 0 || k.Kind > 10 {
		return false
	}
	bare := api.Key{Kind: k.Kind}
	object := k.Oid >= 0 && k.Oid <= 63 && k.Count >= 0 && k.Count <= maxCount
	switch k.Kind {
	case 0, 8, 9, 10:
		return k == bare
	case 1:
		bare.Value = k.Value
		return k == bare
	}
	bare.Oid, bare.Count = k.Oid, k.Count
	switch k.Kind {
	case 2:
		bare.Rights = k.Rights & 7
	case 3:
		bare.Rights = k.Rights & 1
	case 6:
		bare.Value = k.Value
	case 7:
		bare.Call = k.Call
		object = object && k.Call >= 0 && k.Call <= maxCount
	}
	return object && k == bare
}

// names tells whether a key is of an object of the store, and counts.
func (w world) names(k api.Key) bool {
	if k.Kind < 2 || k.Kind > 7 || !mayBe(k) || k.Oid >= len(w) || w[k.Oid].Count != k.Count {
		return false
	}
	if k.Kind == 3 {
		return w[k.Oid].Kind == aPage
	}
	return w[k.Oid].Kind == aNode && (k.Kind != 7 || w[k.Oid].Calls == k.Call)
}

// leads tells what refuses a key by which a bank is asked.
func (w world) leads(bank api.Key) api.Errno {
	if len(w) == 0 {
		return errNil
	}
	if bank.Kind != 4 || !w.names(bank) {
		return errKey
	}
	for _, k := range w[bank.Oid].Slots[:2] {
		if k.Kind != 1 || k.Value < 0 || k.Value >= int64(len(w)) {
			return errBank
		}
	}
	if first, last := w.span(bank); first > last {
		return errBank
	}
	return ok
}

// span tells the first and the last Oid of a bank that there is.
func (w world) span(bank api.Key) (int, int) {
	l := w[bank.Oid].Slots
	return int(l[0].Value), int(l[1].Value)
}

func (w world) within(bank api.Key, oid int) bool {
	first, last := w.span(bank)
	return first <= oid && oid <= last
}

func (w world) isThere(oid int) bool { return w[oid].Kind == aNode || w[oid].Kind == aPage }

// Calls

// which of the six a call is.
const (
	makes = iota
	destroys
	splits
	razes
	asksOwns
	asksRange
)

// call is one of the six, with what it takes beside the store.
type call struct {
	which int
	bank  api.Key
	kind  api.ObjKind
	key   api.Key
	n     int
}

func mk(bank api.Key, kind api.ObjKind) call { return call{which: makes, bank: bank, kind: kind} }

func destroy(bank, k api.Key) call { return call{which: destroys, bank: bank, key: k} }

func split(bank api.Key, n int) call { return call{which: splits, bank: bank, n: n} }

func raze(bank api.Key) call { return call{which: razes, bank: bank} }

func owns(bank, k api.Key) call { return call{which: asksOwns, bank: bank, key: k} }

func span(bank api.Key) call { return call{which: asksRange, bank: bank} }

// each are all six of one bank, whose other arguments are these.
func each(bank api.Key, kind api.ObjKind, k api.Key, n int) (l []call) {
	for which := range 6 {
		l = append(l, call{which, bank, kind, k, n})
	}
	return l
}

// told is what a call answers; what it does not answer is zero.
type told struct {
	key         api.Key
	many        int
	is          bool
	first, last int
	e           api.Errno
}

// of is what the program answers.
func (c call) of(s *objects.Store) (x told) {
	switch c.which {
	case makes:
		x.key, x.e = banks.Make(s, c.bank, c.kind)
	case destroys:
		x.e = banks.Destroy(s, c.bank, c.key)
	case splits:
		x.key, x.e = banks.Split(s, c.bank, c.n)
	case razes:
		x.many, x.e = banks.Raze(s, c.bank)
	case asksOwns:
		x.is, x.e = banks.Owns(s, c.bank, c.key)
	case asksRange:
		x.first, x.last, x.e = banks.Range(s, c.bank)
	}
	return x
}

// by is what the document answers; the world is then as it should be behind the call.
func (c call) by(w world) told {
	if e := w.leads(c.bank); e != ok {
		return told{e: e}
	}
	switch c.which {
	case makes:
		return w.make(c)
	case destroys:
		return told{e: w.destroy(c)}
	case splits:
		return w.split(c)
	case razes:
		return told{many: w.raze(c)}
	case asksOwns:
		return told{is: w.names(c.key) && w.within(c.bank, c.key.Oid)}
	}
	first, last := w.span(c.bank)
	return told{first: first, last: last}
}

func (w world) make(c call) told {
	if c.kind != aNode && c.kind != aPage {
		return told{e: errArg}
	}
	first, last := w.span(c.bank)
	for oid := first; oid <= last; oid++ {
		if w[oid].Kind != free {
			continue
		}
		if w[oid].Count == maxCount {
			w[oid].Kind = retired
			continue
		}
		w[oid] = api.Object{Kind: c.kind, Count: w[oid].Count + 1}
		return told{key: key(api.KeyKind(c.kind)+1, oid, w[oid].Count)}
	}
	return told{e: errFull}
}

func (w world) destroy(c call) api.Errno {
	if c.key.Kind != 2 && c.key.Kind != 3 || !w.names(c.key) {
		return errNone
	}
	if !w.within(c.bank, c.key.Oid) || c.key.Oid == c.bank.Oid {
		return errRange
	}
	w[c.key.Oid] = api.Object{Count: c.key.Count}
	return ok
}

func (w world) split(c call) told {
	first, last := w.span(c.bank)
	if c.n < 1 || c.n >= last-first+1 {
		return told{e: errRange}
	}
	behind := slices.Clone(w)
	x := behind.make(mk(c.bank, aNode))
	if x.e != ok {
		return x
	}
	for i := range c.n {
		if behind.isThere(last - i) {
			return told{e: errFull}
		}
	}
	behind[x.key.Oid].Slots[0], behind[x.key.Oid].Slots[1] = number(last-c.n+1), number(last)
	behind[c.bank.Oid].Slots[1] = number(last - c.n)
	copy(w, behind)
	return told{key: key(4, x.key.Oid, x.key.Count)}
}

func (w world) raze(c call) (many int) {
	for oid := range w {
		if w.within(c.bank, oid) && w.isThere(oid) && oid != c.bank.Oid {
			w[oid] = api.Object{Count: w[oid].Count}
			many++
		}
	}
	return many
}

// Keys to try

func key(kind api.KeyKind, oid int, count int64) api.Key {
	return api.Key{Kind: kind, Oid: oid, Count: count}
}

func bare(kind api.KeyKind) api.Key { return api.Key{Kind: kind} }

func number(n int) api.Key { return api.Key{Kind: 1, Value: int64(n)} }

func nodeKey(oid int, count int64) api.Key { return key(2, oid, count) }

func pageKey(oid int, count int64) api.Key { return key(3, oid, count) }

func bank(oid int, count int64) api.Key { return key(4, oid, count) }

// with is a key with Rights.
func with(k api.Key, r api.Rights) api.Key {
	k.Rights = r
	return k
}

// naming are keys of each kind that names an object, of that Oid and Count; resume keys with that Call.
func naming(oid int, count, call int64) []api.Key {
	l := []api.Key{
		pageKey(oid, count), with(pageKey(oid, count), 1), bank(oid, count), key(5, oid, count), key(6, oid, count),
		{Kind: 6, Oid: oid, Count: count, Value: -9}, {Kind: 7, Oid: oid, Count: count, Call: call},
	}
	for r := range api.Rights(8) {
		l = append(l, with(nodeKey(oid, count), r))
	}
	return l
}

// ofNothing are keys of no object.
func ofNothing() []api.Key {
	return []api.Key{{}, number(0), number(1), number(2), number(9), number(-7), number(math.MaxInt), number(math.MinInt), bare(8), bare(9), bare(10)}
}

// wrongKeys are keys that may not be, in whatever store; many of them are one that counts in the town but for one part.
func wrongKeys() []api.Key {
	return []api.Key{
		bare(-1), bare(11), bare(256), bare(math.MinInt), bare(math.MaxInt), key(-4, 1, 3), key(11, 1, 3), key(256+4, 1, 3), key(1<<32+4, 1, 3), key(256+2, 2, 4), key(1<<32+3, 3, 5),
		{Oid: 1}, {Count: 3}, {Call: 1}, {Rights: 1}, {Value: 1}, {Kind: 1, Oid: 1}, {Kind: 1, Count: 3}, {Kind: 8, Oid: 1}, {Kind: 9, Value: 1}, {Kind: 10, Rights: 2},
		bank(-1, 3), bank(64, 3), bank(65, 3), bank(257, 3), bank(1<<32+1, 3), bank(math.MaxInt, 3), bank(math.MinInt, 3),
		bank(1, -3), bank(1, -1), bank(14, maxCount+1), bank(1, maxCount+4), bank(1, math.MaxInt64), bank(1, math.MinInt64),
		with(bank(1, 3), 1), with(bank(1, 3), 2), with(bank(1, 3), 4), with(bank(1, 3), -1), with(bank(1, 3), 8),
		{Kind: 4, Oid: 1, Count: 3, Call: 2}, {Kind: 4, Oid: 1, Count: 3, Value: 1}, {Kind: 4, Oid: 1, Count: 3, Value: -1},
		with(nodeKey(2, 4), 8), with(nodeKey(2, 4), -1), with(nodeKey(2, 4), math.MinInt), {Kind: 2, Oid: 2, Count: 4, Call: 6}, {Kind: 2, Oid: 2, Count: 4, Value: 1},
		nodeKey(-1, 4), nodeKey(64, 4), nodeKey(258, 4), nodeKey(2, -4), nodeKey(2, maxCount+5), nodeKey(math.MaxInt, 4),
		with(pageKey(3, 5), 2), with(pageKey(3, 5), 4), with(pageKey(3, 5), 3), with(pageKey(3, 5), -1), {Kind: 3, Oid: 3, Count: 5, Call: 1}, {Kind: 3, Oid: 3, Count: 5, Value: 1},
		pageKey(-1, 5), pageKey(64, 5), pageKey(3, -5), pageKey(3, maxCount+6), pageKey(math.MinInt, 5), {Kind: 7, Oid: 2, Count: 4, Call: -1}, {Kind: 5, Oid: 2, Count: 4, Rights: 1},
	}
}

func wrongKinds() []api.ObjKind {
	return []api.ObjKind{0, 3, 4, -1, -2, 5, 255, 256, 257, 258, 1 << 32, 1<<32 + 1, 1<<32 + 2, math.MinInt, math.MinInt + 1, math.MaxInt, math.MaxInt - 1}
}

// extremes are numbers that, taken modulo what an int holds, or with a number added, could be right.
func extremes() []int {
	return []int{
		-1, -2, -3, -8, -64, 64, 65, 128, 255, 256, 257, 1 << 31, 1 << 32, 1<<32 + 1, 1<<32 + 2, -1 << 32, -1<<32 + 2,
		math.MaxInt, math.MaxInt - 1, math.MaxInt - 8, math.MinInt, math.MinInt + 1, math.MinInt + 2, math.MinInt + 8,
	}
}

// Stores to try

func rising(from byte) (b [64]byte) {
	for i := range b {
		b[i] = from + byte(i)
	}
	return b
}

// full is an object with something in each part that its kind may have.
func full(kind api.ObjKind, count, calls int64) api.Object {
	o := api.Object{Kind: kind, Count: count, Calls: calls, Bytes: rising(byte(3*count + 1))}
	for slot := range o.Slots {
		o.Slots[slot] = []api.Key{number(slot - 3), {Kind: 6, Count: 1, Value: 8}, with(nodeKey(0, count), 7), {Kind: 8}}[slot%4]
	}
	if kind == aPage {
		o.Slots = [16]api.Key{}
	}
	return o
}

// bankNode is a node that is a bank of those Oids, where the store has them.
func bankNode(count, calls int64, first, last int) api.Object {
	return nodeOf(count, calls, number(first), number(last))
}

// nodeOf is a node with those two keys in its first slots.
func nodeOf(count, calls int64, first, last api.Key) api.Object {
	o := full(aNode, count, calls)
	o.Slots[0], o.Slots[1] = first, last
	return o
}

func page(count int64) api.Object { return full(aPage, count, 0) }

func none(kind api.ObjKind, count int64) api.Object { return api.Object{Kind: kind, Count: count} }

// town are objects of all kinds: 1 is a bank of 2 to 9, 10 one of 8 to 13, with its own node, 14 one of all; 11 is a node that is no bank.
func town() world {
	return world{
		none(free, 0),
		bankNode(3, 2, 2, 9),
		full(aNode, 4, 6),
		page(5),
		none(free, maxCount),
		none(retired, maxCount),
		none(free, maxCount-1),
		none(free, 0),
		none(free, 7),
		page(0),
		bankNode(1, 0, 8, 13),
		bankNode(2, 0, 5, 4),
		page(maxCount),
		none(free, 2),
		bankNode(maxCount, maxCount, 0, 15),
		none(free, maxCount),
	}
}

// one, ten and all are the town's bank keys.
func one() api.Key { return bank(1, 3) }

func ten() api.Key { return bank(10, 1) }

func all() api.Key { return bank(14, maxCount) }

// row is a store whose object 0 is a bank of all others, and that bank's key.
func row(l ...api.Object) (world, api.Key) {
	return append(world{bankNode(9, 4, 1, len(l))}, l...), bank(0, 9)
}

// rowWithin is one whose bank has its own node, too, as its first Oid, or, where it is not first, as its last one.
func rowWithin(first bool, l ...api.Object) (world, api.Key) {
	own := bankNode(9, 4, 0, len(l))
	if first {
		return append(world{own}, l...), bank(0, 9)
	}
	return append(slices.Clone(l), own), bank(len(l), 9)
}

// pair is a store, and beside it what it should have.
type pair struct {
	t    *testing.T
	s    *objects.Store
	want world
	dead []api.Key // of what was destroyed
}

func pairOf(t *testing.T, w world) *pair {
	t.Helper()
	s, e := objects.Of(w...)
	if e != ok {
		t.Fatalf("no such store: %v", e)
	}
	return &pair{t: t, s: s, want: slices.Clone(w)}
}

// holds asks that the store has what it should, part by part and byte by byte.
func (p *pair) holds(what any) {
	p.t.Helper()
	if p.s.Size() != len(p.want) {
		p.t.Fatalf("%v: %d objects, want %d", what, p.s.Size(), len(p.want))
	}
	for oid, o := range p.s.All() {
		if o != p.want[oid] {
			p.t.Fatalf("%v: the object %d is %v, want %v", what, oid, o, p.want[oid])
		}
	}
}

// does asks that a call answers as the document does, and that the store is as it should be behind it.
func (p *pair) does(c call) told {
	p.t.Helper()
	was := slices.Clone(p.want)
	want := c.by(p.want)
	x := c.of(p.s)
	if x != want {
		p.t.Fatalf("%v: %v, want %v", c, x, want)
	}
	p.holds(c)
	p.lasts(c, was)
	return x
}

// tells asks for just that answer, too.
func (p *pair) tells(c call, want told) {
	p.t.Helper()
	if x := p.does(c); x != want {
		p.t.Fatalf("%v: %v, want %v", c, x, want)
	}
}

// refuses asks for an error, beside which all is zero, and that the store stays.
func (p *pair) refuses(c call, e api.Errno) {
	p.t.Helper()
	was := slices.Clone(p.want)
	p.tells(c, told{e: e})
	p.has(was...)
}

// has asks for just those objects.
func (p *pair) has(l ...api.Object) {
	p.t.Helper()
	if !slices.Equal(p.want, l) {
		p.t.Fatalf("the store has %v, want %v", p.want, l)
	}
	p.holds("the store")
}

// set puts an object into the store by the store's own call.
func (p *pair) set(oid int, o api.Object) {
	p.t.Helper()
	if e := p.s.Put(oid, o); e != ok {
		p.t.Fatalf("the store takes no such object: %v", e)
	}
	p.want[oid] = o
}

// lasts asks what P12.3 says of a call: of each object what it was ahead of it, and what it is by the store now.
func (p *pair) lasts(c call, was world) {
	p.t.Helper()
	for oid, o := range p.s.All() {
		ahead := was[oid]
		if o.Count < ahead.Count || o.Count > ahead.Count+1 || o.Count > maxCount {
			p.t.Fatalf("%v: the Count of %d was %d, is %d", c, oid, ahead.Count, o.Count)
		}
		there, wasThere := o.Kind == aNode || o.Kind == aPage, ahead.Kind == aNode || ahead.Kind == aPage
		if (o.Count > ahead.Count) != (there && !wasThere) || there && !wasThere && ahead.Kind != free {
			p.t.Fatalf("%v: %d was %v, is %v", c, oid, ahead, o)
		}
		if wasThere && !there {
			p.dead = append(p.dead, naming(oid, ahead.Count, ahead.Calls)...)
		}
	}
}

// staysDead asks that no key of what was destroyed counts.
func (p *pair) staysDead() {
	p.t.Helper()
	for _, k := range p.dead {
		if _, counts := p.s.Named(k); counts {
			p.t.Fatalf("%v counts again", k)
		}
	}
}

func TestTheKeysToTryAreRight(t *testing.T) {
	w := town()
	for _, k := range []api.Key{one(), ten(), all()} {
		if e := w.leads(k); e != ok {
			t.Errorf("%v: %v", k, e)
		}
	}
	if e := w.leads(bank(11, 2)); e != errBank {
		t.Errorf("the node 11: %v", e)
	}
	for _, k := range wrongKeys() {
		if mayBe(k) {
			t.Errorf("%v may be", k)
		}
	}
	l := leadNowhere()
	if len(l) < 400 {
		t.Errorf("only %d keys that lead nowhere", len(l))
	}
	for _, k := range l {
		if e := w.leads(k); e != errKey {
			t.Errorf("%v: %v", k, e)
		}
	}
}

// The chapter's examples

func TestTheChaptersExamples(t *testing.T) {
	own := bankNode(1, 0, 2, 5)
	p := pairOf(t, world{{}, own, {}, {}, {}, {}})
	k := bank(1, 1)
	p.tells(mk(k, aNode), told{key: nodeKey(2, 1)})
	p.tells(mk(k, aPage), told{key: pageKey(3, 1)})
	p.tells(destroy(k, nodeKey(2, 1)), told{})
	p.tells(mk(k, aPage), told{key: pageKey(2, 2)})
	p.refuses(split(k, 2), errFull)
	p.tells(split(k, 1), told{key: bank(4, 1)})
	p.tells(span(bank(4, 1)), told{first: 5, last: 5})
	p.tells(span(k), told{first: 2, last: 4})
	p.tells(owns(k, nodeKey(2, 1)), told{})
	if got := p.s.Prepared(nodeKey(2, 1)); got != (api.Key{}) {
		t.Errorf("node 2 1 counts: %v", got)
	}
	own.Slots[1] = number(4)
	p.has(api.Object{}, own, none(aPage, 2), none(aPage, 1), api.Object{Kind: aNode, Count: 1, Slots: [16]api.Key{number(5), number(5)}}, api.Object{})
}

// Examples 1 and 3 of the whole.
func TestMadeDestroyedAndMadeAgain(t *testing.T) {
	p := pairOf(t, world{bankNode(1, 0, 2, 5), {}, {}, {}, {}, {}})
	p.tells(mk(bank(0, 1), aNode), told{key: nodeKey(2, 1)})
	p.tells(destroy(bank(0, 1), nodeKey(2, 1)), told{})
	p.tells(mk(bank(0, 1), aNode), told{key: nodeKey(2, 2)})
	p.staysDead()
}

// No store, no key, no bank

func TestNoStore(t *testing.T) {
	for what, s := range map[string]*objects.Store{"nil": nil, "zero": {}} {
		for _, k := range slices.Concat([]api.Key{one(), bank(0, 0), nodeKey(1, 3)}, ofNothing(), wrongKeys()) {
			for _, n := range append(extremes(), 0, 1, 2) {
				for _, c := range each(k, api.ObjKind(n), k, n) {
					if x := c.of(s); x != (told{e: errNil}) {
						t.Fatalf("a %s store: %v: %v", what, c, x)
					}
				}
			}
		}
		if s.Size() != 0 {
			t.Errorf("a %s store has %d objects", what, s.Size())
		}
	}
}

// leadNowhere are keys that are no bank keys that count in the town.
func leadNowhere() []api.Key {
	l := slices.Concat(wrongKeys(), ofNothing())
	for oid, o := range town() {
		for _, k := range naming(oid, o.Count, o.Calls) {
			if k.Kind != 4 || o.Kind != aNode {
				l = append(l, k)
			}
		}
		l = append(l, bank(oid, (o.Count+1)%(maxCount+1)), bank(oid, (o.Count+maxCount)%(maxCount+1)))
	}
	for _, oid := range []int{16, 17, 63} {
		l = slices.Concat(l, naming(oid, 0, 0), naming(oid, 1, 0))
	}
	return l
}

func TestNoBankKeyThatCounts(t *testing.T) {
	p := pairOf(t, town())
	for _, k := range leadNowhere() {
		for _, other := range []api.Key{nodeKey(2, 4), pageKey(3, 5), {}, bare(-1), nodeKey(0, 0), k} {
			for _, n := range []int{1, 0, 2, -1, math.MaxInt} {
				for _, c := range each(k, api.ObjKind(n), other, n) {
					p.refuses(c, errKey)
				}
			}
		}
	}
}

// noBanks are pairs of keys that make no node a bank in a store of six.
func noBanks() [][2]api.Key {
	l := [][2]api.Key{
		{number(1), {}}, {{}, number(1)}, {{}, {}}, {number(3), number(2)}, {number(5), number(0)}, {number(-1), number(3)}, {number(-1), number(-1)}, {number(-2), number(-1)},
		{number(0), number(-1)}, {number(0), number(6)}, {number(5), number(6)}, {number(6), number(6)}, {number(6), number(5)}, {number(7), number(8)}, {number(6), number(63)},
		{number(0), number(63)}, {number(0), number(64)}, {number(2), number(1<<32 + 3)}, {number(1<<32 + 1), number(1<<32 + 3)}, {number(-1 << 32), number(3)}, {number(256), number(257)},
	}
	for _, n := range extremes() {
		l = append(l, [2]api.Key{number(n), number(4)}, [2]api.Key{number(1), number(n)}, [2]api.Key{number(n), number(n)})
	}
	for _, k := range slices.Concat(naming(0, 1, 0), naming(1, 3, 0), naming(3, 0, 0), []api.Key{{}, bare(8), bare(9), bare(10)}) {
		l = append(l, [2]api.Key{k, number(4)}, [2]api.Key{number(0), k}, [2]api.Key{k, k})
	}
	return l
}

func TestNoBank(t *testing.T) {
	for _, x := range noBanks() {
		p := pairOf(t, world{nodeOf(1, 2, x[0], x[1]), {}, {}, {}, page(1), {}})
		for _, k := range []api.Key{pageKey(4, 1), nodeKey(0, 1), {}, bare(-1), nodeKey(4, 1)} {
			for _, n := range []int{1, 2, 0, 3, -1, math.MinInt} {
				for _, c := range each(bank(0, 1), api.ObjKind(n), k, n) {
					p.refuses(c, errBank)
				}
			}
		}
	}
}

// A bank of any size: each first and last one, in stores of few and of many objects.
func TestWhichNodesAreBanks(t *testing.T) {
	for _, size := range []int{1, 2, 3, 6, 63, 64} {
		for first := -2; first <= size+1; first++ {
			for last := -2; last <= size+1; last++ {
				w := make(world, size)
				w[size-1] = bankNode(2, 0, first, last)
				p, want := pairOf(t, w), told{first: first, last: last}
				if first < 0 || last < first || last > size-1 {
					want = told{e: errBank}
				}
				p.tells(span(bank(size-1, 2)), want)
			}
		}
	}
}

// Slots 2 to 15, bytes, Calls and Count of a bank's node mean nothing.
func TestOnlyTwoSlotsSayABank(t *testing.T) {
	for _, o := range []api.Object{
		{Kind: aNode, Slots: [16]api.Key{number(1), number(2)}},
		{Kind: aNode, Count: maxCount, Calls: maxCount, Bytes: rising(200), Slots: [16]api.Key{number(1), number(2), number(0), number(-5), {Kind: 9}, nodeKey(0, 0)}},
	} {
		p := pairOf(t, world{o, {}, {}, {}})
		p.tells(span(bank(0, o.Count)), told{first: 1, last: 2})
		p.tells(mk(bank(0, o.Count), aPage), told{key: pageKey(1, 1)})
	}
}

// The order of errors, where two or more of them could be told.
func TestTheOrderOfErrors(t *testing.T) {
	nobody, dull, whole := bank(1, 4), bank(11, 2), bank(1, 3)
	p := pairOf(t, town())
	for range 3 { // fill the bank
		p.does(mk(whole, aPage))
	}
	p.refuses(mk(whole, aPage), errFull)
	for _, kind := range wrongKinds() {
		p.refuses(mk(nobody, kind), errKey)
		p.refuses(mk(dull, kind), errBank)
		p.refuses(mk(whole, kind), errArg)
	}
	for _, k := range []api.Key{{}, nodeKey(2, 3), nodeKey(0, 0), nodeKey(13, 2), pageKey(12, 1), bank(14, maxCount), bank(1, 3), bare(-1), nodeKey(64, 0)} {
		p.refuses(destroy(nobody, k), errKey)
		p.refuses(destroy(dull, k), errBank)
		p.refuses(destroy(whole, k), errNone) // also of what is none of the bank's, and of its own node
		p.refuses(owns(nobody, k), errKey)
		p.refuses(owns(dull, k), errBank)
	}
	for _, k := range []api.Key{nodeKey(14, maxCount), nodeKey(1, 3), pageKey(12, maxCount)} {
		p.refuses(destroy(whole, k), errRange)
	}
	for _, n := range append(extremes(), 0, 8, 9) {
		p.refuses(split(nobody, n), errKey)
		p.refuses(split(dull, n), errBank)
		p.refuses(split(whole, n), errRange) // the bank is full, too
	}
	for n := 1; n <= 7; n++ {
		p.refuses(split(whole, n), errFull)
	}
}

// Make

func TestMakeOnTheWay(t *testing.T) {
	p, want := pairOf(t, town()), town()
	p.tells(mk(one(), aNode), told{key: nodeKey(6, maxCount)})
	want[4], want[6] = none(retired, maxCount), none(aNode, maxCount)
	p.has(want...)
	p.tells(mk(one(), aPage), told{key: pageKey(7, 1)})
	want[7] = none(aPage, 1)
	p.has(want...)
	p.tells(mk(one(), aNode), told{key: nodeKey(8, 8)})
	want[8] = none(aNode, 8)
	p.has(want...)
	p.refuses(mk(one(), aNode), errFull)
	p.refuses(mk(one(), aPage), errFull)
	p.tells(destroy(one(), nodeKey(6, maxCount)), told{})
	want[6] = none(free, maxCount)
	p.has(want...)
	p.tells(mk(one(), aPage), told{e: errFull})
	want[6] = none(retired, maxCount)
	p.has(want...)
	p.tells(mk(ten(), aPage), told{key: pageKey(13, 3)})
	p.refuses(mk(ten(), aPage), errFull)
	p.tells(mk(all(), aNode), told{key: nodeKey(0, 1)})
	if p.want[15] != none(free, maxCount) {
		t.Errorf("what is behind the one that was made is %v", p.want[15])
	}
	p.tells(mk(all(), aNode), told{e: errFull})
	want[0], want[13], want[15] = none(aNode, 1), none(aPage, 3), none(retired, maxCount)
	p.has(want...)
	p.refuses(mk(all(), aNode), errFull)
}

func TestMakeOfEachKind(t *testing.T) {
	for _, kind := range wrongKinds() {
		p := pairOf(t, town())
		p.refuses(mk(one(), kind), errArg)
		w, k := row(none(free, maxCount), none(retired, maxCount))
		q := pairOf(t, w)
		q.refuses(mk(k, kind), errArg) // nothing is retired
	}
	for _, kind := range []api.ObjKind{aNode, aPage} {
		w, k := row(api.Object{})
		p := pairOf(t, w)
		p.tells(mk(k, kind), told{key: key(api.KeyKind(kind)+1, 1, 1)})
		p.has(w[0], api.Object{Kind: kind, Count: 1})
	}
}

// What is made has one Count more than what was free, and nothing else; the last number is given once.
func TestMakeAtEachCount(t *testing.T) {
	for _, count := range []int64{0, 1, 2, 254, 255, 256, 1<<31 - 2, 1<<31 - 1, 1 << 31, maxCount - 3, maxCount - 2, maxCount - 1} {
		for _, kind := range []api.ObjKind{aNode, aPage} {
			w, k := row(none(free, count))
			p := pairOf(t, w)
			made := key(api.KeyKind(kind)+1, 1, count+1)
			p.tells(mk(k, kind), told{key: made})
			p.has(w[0], none(kind, count+1))
			p.refuses(mk(k, kind), errFull)
			p.tells(destroy(k, made), told{})
			p.has(w[0], none(free, count+1))
			if count < maxCount-1 {
				p.tells(mk(k, kind), told{key: key(made.Kind, 1, count+2)})
				continue
			}
			p.tells(mk(k, kind), told{e: errFull})
			p.has(w[0], none(retired, maxCount))
			p.refuses(mk(k, kind), errFull)
			p.tells(raze(k), told{})
			p.refuses(mk(k, kind), errFull)
			p.staysDead()
		}
	}
}

// All that are free at MaxCount ahead of the one that is made are retired, none behind it; where none is made all of them.
func TestWhatIsRetired(t *testing.T) {
	for at := range 6 {
		w, k := row(make([]api.Object, 6)...)
		for i := range 6 {
			w[i+1] = none(free, maxCount)
		}
		w[at+1] = none(free, 5)
		p, want := pairOf(t, w), slices.Clone(w)
		p.tells(mk(k, aPage), told{key: pageKey(at+1, 6)})
		for i := range at {
			want[i+1].Kind = retired
		}
		want[at+1] = none(aPage, 6)
		p.has(want...)
		p.tells(mk(k, aPage), told{e: errFull})
		for i := range 6 {
			if i != at {
				want[i+1].Kind = retired
			}
		}
		p.has(want...)
	}
}

// A full bank, or one whose Oids are all beyond it, retires and makes nothing; others' Oids are not looked at.
func TestMakeStaysWithinTheBank(t *testing.T) {
	w := world{{}, none(free, maxCount), bankNode(1, 0, 3, 4), page(2), full(aNode, 1, 1), none(free, maxCount), {}}
	p := pairOf(t, w)
	p.refuses(mk(bank(2, 1), aNode), errFull)
	p.does(destroy(bank(2, 1), pageKey(3, 2)))
	p.tells(mk(bank(2, 1), aNode), told{key: nodeKey(3, 3)})
	w[3] = none(aNode, 3)
	p.has(w...)
}

// What is retired is not free, whatever its Count.
func TestNoRetiredOneIsMade(t *testing.T) {
	for _, count := range []int64{0, 1, maxCount - 1, maxCount} {
		w, k := row(none(retired, count), none(retired, count))
		p := pairOf(t, w)
		p.refuses(mk(k, aNode), errFull)
		p.refuses(mk(k, aPage), errFull)
		p.refuses(split(k, 1), errFull)
		p.tells(raze(k), told{})
		p.has(w...)
		w, k = row(none(retired, count), api.Object{}, none(retired, count))
		q := pairOf(t, w)
		q.tells(split(k, 1), told{key: bank(2, 1)})
		q.refuses(mk(k, aNode), errFull)
		q.refuses(mk(bank(2, 1), aNode), errFull)
	}
}

// The bank's own node is there, so it is never made, and never retired.
func TestMakeBesideTheOwnNode(t *testing.T) {
	for _, count := range []int64{0, 1, maxCount} {
		own := bankNode(count, 0, 0, 2)
		p := pairOf(t, world{{}, own, {}})
		p.tells(mk(bank(1, count), aPage), told{key: pageKey(0, 1)})
		p.tells(mk(bank(1, count), aPage), told{key: pageKey(2, 1)})
		p.refuses(mk(bank(1, count), aPage), errFull)
		p.has(none(aPage, 1), own, none(aPage, 1))
	}
	p := pairOf(t, world{bankNode(0, 0, 0, 0)})
	p.refuses(mk(bank(0, 0), aNode), errFull)
}

// Destroy

// What is destroyed by any key of it is free, and its Count stays.
func TestDestroy(t *testing.T) {
	for r := range api.Rights(8) {
		p, want := pairOf(t, town()), town()
		p.tells(destroy(one(), with(nodeKey(2, 4), r)), told{})
		want[2] = none(free, 4)
		p.has(want...)
		p.refuses(destroy(one(), with(nodeKey(2, 4), r)), errNone)
		p.tells(mk(one(), aNode), told{key: nodeKey(2, 5)})
		p.refuses(destroy(one(), with(nodeKey(2, 4), r)), errNone)
		p.staysDead()
	}
	for r := range api.Rights(2) {
		p, want := pairOf(t, town()), town()
		p.tells(destroy(one(), with(pageKey(3, 5), r)), told{})
		want[3] = none(free, 5)
		p.has(want...)
		p.tells(destroy(one(), with(pageKey(9, 0), r)), told{})
		want[9] = none(free, 0)
		p.has(want...)
		p.tells(destroy(ten(), with(pageKey(12, maxCount), r)), told{})
		want[12] = none(free, maxCount)
		p.has(want...)
		p.staysDead()
	}
}

// Keys of other kinds, and such as do not count, destroy nothing, be they of the bank's objects or not.
func TestDestroyOfNoneSuch(t *testing.T) {
	p := pairOf(t, town())
	for _, k := range slices.Concat(ofNothing(), wrongKeys()) {
		p.refuses(destroy(one(), k), errNone)
		p.refuses(destroy(all(), k), errNone)
	}
	for oid, o := range town() {
		for _, k := range naming(oid, o.Count, o.Calls) {
			if k.Kind > 3 || k.Kind == 2 && o.Kind != aNode || k.Kind == 3 && o.Kind != aPage {
				p.refuses(destroy(one(), k), errNone)
				p.refuses(destroy(all(), k), errNone)
			}
		}
		for _, count := range []int64{(o.Count + 1) % (maxCount + 1), (o.Count + maxCount) % (maxCount + 1)} {
			for _, k := range naming(oid, count, o.Calls) {
				p.refuses(destroy(one(), k), errNone)
				p.refuses(destroy(all(), k), errNone)
			}
		}
	}
	for _, k := range naming(16, 0, 0) {
		p.refuses(destroy(all(), k), errNone)
	}
}

// The first and the last of a bank's Oids are its own, those beside them are not.
func TestDestroyAtTheEdges(t *testing.T) {
	for first := range 6 {
		for last := first; last < 6; last++ {
			w := world{page(1), full(aNode, 2, 1), page(3), page(4), full(aNode, 5, 0), page(6), bankNode(1, 1, first, last)}
			p := pairOf(t, w)
			for oid := range 6 {
				k := key(api.KeyKind(w[oid].Kind)+1, oid, int64(oid+1))
				if oid < first || oid > last {
					p.refuses(destroy(bank(6, 1), k), errRange)
					continue
				}
				p.tells(destroy(bank(6, 1), k), told{})
				w[oid] = none(free, int64(oid+1))
				p.has(w...)
			}
		}
	}
}

func TestDestroyOfTheOwnNode(t *testing.T) {
	p := pairOf(t, town())
	for r := range api.Rights(8) {
		p.refuses(destroy(ten(), with(nodeKey(10, 1), r)), errRange) // one of its Oids
		p.refuses(destroy(one(), with(nodeKey(1, 3), r)), errRange)  // none of them
		p.refuses(destroy(all(), with(nodeKey(14, maxCount), r)), errRange)
	}
	p.refuses(destroy(ten(), ten()), errNone)
	q := pairOf(t, world{bankNode(0, 0, 0, 0)})
	q.refuses(destroy(bank(0, 0), nodeKey(0, 0)), errRange)
}

// A bank is a node, which another bank may destroy; its key leads nowhere then, and what it had stays.
func TestDestroyOfABank(t *testing.T) {
	p, want := pairOf(t, town()), town()
	p.tells(destroy(all(), nodeKey(1, 3)), told{})
	want[1] = none(free, 3)
	p.has(want...)
	for _, c := range each(one(), aNode, nodeKey(2, 4), 1) {
		p.refuses(c, errKey)
	}
	p.tells(destroy(all(), nodeKey(10, 1)), told{})
	p.tells(mk(all(), aNode), told{key: nodeKey(0, 1)})
	p.tells(mk(all(), aNode), told{key: nodeKey(1, 4)})
	for _, c := range each(one(), aNode, nodeKey(2, 4), 1) {
		p.refuses(c, errKey)
	}
	p.refuses(span(bank(1, 4)), errBank) // its slots are void
}

// Split

// A bank of n free Oids: each number that may be split off leaves both banks what is theirs.
func TestSplitOfEachNumber(t *testing.T) {
	for many := 2; many <= 63; many++ {
		w, k := row(make([]api.Object, many)...)
		for n := 1; n < many; n++ {
			p, want := pairOf(t, w), slices.Clone(w)
			p.tells(split(k, n), told{key: bank(1, 1)})
			want[0].Slots[1] = number(many - n)
			want[1] = api.Object{Kind: aNode, Count: 1, Slots: [16]api.Key{number(many - n + 1), number(many)}}
			p.has(want...)
			p.tells(span(k), told{first: 1, last: many - n})
			p.tells(span(bank(1, 1)), told{first: many - n + 1, last: many})
		}
	}
}

func TestSplitOfNoNumber(t *testing.T) {
	for many := 1; many <= 63; many++ {
		w, k := row(make([]api.Object, many)...)
		p := pairOf(t, w)
		for _, n := range append(extremes(), 0, many, many+1, many+2, -many, 1-many) {
			p.refuses(split(k, n), errRange)
		}
	}
}

func TestTheNewNodeAmongTheLast(t *testing.T) {
	w, k := row(page(1), api.Object{}, api.Object{}, api.Object{})
	p := pairOf(t, w)
	p.refuses(split(k, 3), errFull)
	p.tells(split(k, 2), told{key: bank(2, 1)})
	p.tells(span(k), told{first: 1, last: 2})
	p.refuses(split(k, 1), errFull) // nothing is free
	p.tells(span(bank(2, 1)), told{first: 3, last: 4})
	p.refuses(split(bank(2, 1), 2), errRange)
	p.tells(split(bank(2, 1), 1), told{key: bank(3, 1)})
	p.tells(span(bank(2, 1)), told{first: 3, last: 3})
	p.tells(span(bank(3, 1)), told{first: 4, last: 4})
	p.refuses(split(bank(2, 1), 1), errRange)
	w, k = row(page(1), page(2), api.Object{})
	q := pairOf(t, w)
	q.refuses(split(k, 1), errFull)
	q.refuses(split(k, 2), errFull)
}

func TestWhatTheLastAre(t *testing.T) {
	for _, x := range []struct {
		last []api.Object
		n    int
		e    api.Errno
	}{
		{[]api.Object{none(free, 3), none(free, maxCount)}, 2, ok},
		{[]api.Object{none(retired, maxCount), none(retired, maxCount)}, 2, ok},
		{[]api.Object{none(free, 0), none(retired, maxCount)}, 2, ok},
		{[]api.Object{page(1), none(free, 0)}, 1, ok},
		{[]api.Object{page(1), none(free, 0)}, 2, errFull},
		{[]api.Object{none(free, 0), page(1)}, 1, errFull},
		{[]api.Object{none(free, 0), page(1)}, 2, errFull},
		{[]api.Object{none(retired, maxCount), full(aNode, 0, 0)}, 1, errFull},
		{[]api.Object{full(aNode, 0, 0), none(retired, maxCount)}, 1, ok},
		{[]api.Object{full(aNode, 0, 0), none(retired, maxCount)}, 2, errFull},
		{[]api.Object{{Kind: aPage}, none(free, 1)}, 2, errFull},
		{[]api.Object{{Kind: aNode}, none(free, 1)}, 2, errFull},
	} {
		w, k := row(slices.Concat([]api.Object{page(4), none(free, 7)}, x.last)...)
		p, want := pairOf(t, w), slices.Clone(w)
		if x.e != ok {
			p.refuses(split(k, x.n), x.e)
			continue
		}
		p.tells(split(k, x.n), told{key: bank(2, 8)})
		want[0].Slots[1] = number(4 - x.n)
		want[2] = api.Object{Kind: aNode, Count: 8, Slots: [16]api.Key{number(5 - x.n), number(4)}}
		p.has(want...)
	}
}

// Where a split is refused those that would have been retired are free; where it goes they are retired.
func TestWhatASplitRetires(t *testing.T) {
	old := none(free, maxCount)
	for _, l := range [][]api.Object{
		{old, old, old}, {old, page(1), old}, {old, {}, page(1)}, {old, old, {}}, {page(1), old, old}, {old, none(retired, maxCount), {}}, {old, full(aNode, 1, 1), none(free, 4)},
	} {
		w, k := row(l...)
		p := pairOf(t, w)
		p.refuses(split(k, 1), errFull)
		p.refuses(split(k, 2), errFull)
		p.refuses(split(k, 3), errRange)
	}
	w, k := row(old, page(2), old, none(free, maxCount-1), old, old)
	p, want := pairOf(t, w), slices.Clone(w)
	p.refuses(split(k, 3), errFull)
	p.tells(split(k, 2), told{key: bank(4, maxCount)})
	want[0].Slots[1] = number(4)
	want[1].Kind, want[3].Kind = retired, retired
	want[4] = api.Object{Kind: aNode, Count: maxCount, Slots: [16]api.Key{number(5), number(6)}}
	p.has(want...)
	p.tells(mk(bank(4, maxCount), aPage), told{e: errFull})
	p.refuses(mk(k, aPage), errFull)
}

func TestSplitOfABankWithItsOwnNode(t *testing.T) {
	w, k := rowWithin(true, make([]api.Object, 4)...)
	p, want := pairOf(t, w), slices.Clone(w)
	p.refuses(split(k, 5), errRange)
	p.refuses(split(k, 4), errFull) // the new node is among them
	p.tells(split(k, 3), told{key: bank(1, 1)})
	want[0].Slots[1] = number(1)
	want[1] = api.Object{Kind: aNode, Count: 1, Slots: [16]api.Key{number(2), number(4)}}
	p.has(want...)
	w, k = rowWithin(false, make([]api.Object, 4)...)
	q := pairOf(t, w)
	for n := 1; n <= 4; n++ {
		q.refuses(split(k, n), errFull) // its own node is among them
	}
	q.refuses(split(k, 5), errRange)
}

// Both banks go on by themselves behind a split.
func TestBothBanksBehindASplit(t *testing.T) {
	w, k := row(make([]api.Object, 6)...)
	p := pairOf(t, w)
	p.tells(split(k, 3), told{key: bank(1, 1)})
	other := bank(1, 1)
	p.tells(mk(k, aPage), told{key: pageKey(2, 1)})
	p.tells(mk(other, aPage), told{key: pageKey(4, 1)})
	p.tells(owns(k, other), told{is: true})
	p.tells(owns(k, pageKey(4, 1)), told{})
	p.tells(owns(other, pageKey(4, 1)), told{is: true})
	p.refuses(destroy(k, pageKey(4, 1)), errRange)
	p.refuses(destroy(other, pageKey(2, 1)), errRange)
	p.refuses(destroy(other, nodeKey(1, 1)), errRange)
	p.tells(raze(other), told{many: 1})
	p.tells(mk(k, aNode), told{key: nodeKey(3, 1)})
	p.refuses(mk(k, aNode), errFull)
	p.tells(raze(k), told{many: 3}) // the other bank's node among them
	p.refuses(span(other), errKey)
	p.staysDead()
}

// Raze

func TestRaze(t *testing.T) {
	p, want := pairOf(t, town()), town()
	p.tells(raze(one()), told{many: 3})
	want[2], want[3], want[9] = none(free, 4), none(free, 5), none(free, 0)
	p.has(want...)
	p.tells(raze(one()), told{})
	p.has(want...)
	p.tells(raze(ten()), told{many: 2}) // its own node stays, with all that it has
	want[11], want[12] = none(free, 2), none(free, maxCount)
	p.has(want...)
	p.tells(raze(all()), told{many: 2}) // the two other banks
	want[1], want[10] = none(free, 3), none(free, 1)
	p.has(want...)
	p.staysDead()
	p.refuses(raze(one()), errKey)
	p.refuses(raze(ten()), errKey)
	p.tells(raze(all()), told{})
}

// Of what there is each is destroyed, of what there is not none; free ones and retired ones stay as they are.
func TestRazeOfEachNumber(t *testing.T) {
	for many := 1; many <= 63; many++ {
		l := make([]api.Object, many)
		there := 0
		for i := range l {
			l[i] = []api.Object{page(int64(i)), none(free, int64(i)), full(aNode, int64(i), 3), none(retired, maxCount), none(free, maxCount), page(maxCount), full(aNode, maxCount, 0)}[i*i%7]
			if l[i].Kind == aNode || l[i].Kind == aPage {
				there++
			}
		}
		w, k := row(l...)
		p := pairOf(t, w)
		p.tells(raze(k), told{many: there})
		p.tells(raze(k), told{})
		for _, first := range []bool{true, false} {
			w, k = rowWithin(first, l...)
			p = pairOf(t, w)
			p.tells(raze(k), told{many: there})
			p.tells(owns(k, k), told{is: true})
		}
	}
	p := pairOf(t, world{bankNode(0, 0, 0, 0)})
	p.tells(raze(bank(0, 0)), told{})
}

// Owns

func TestOwnsOfEachKind(t *testing.T) {
	w := town()
	p := pairOf(t, w)
	for _, by := range []struct {
		bank        api.Key
		first, last int
	}{{one(), 2, 9}, {ten(), 8, 13}, {all(), 0, 15}} {
		for oid, o := range w {
			within := by.first <= oid && oid <= by.last
			for _, k := range naming(oid, o.Count, o.Calls) {
				is := within && (k.Kind == 3 && o.Kind == aPage || k.Kind != 3 && o.Kind == aNode)
				p.tells(owns(by.bank, k), told{is: is})
			}
			for _, k := range naming(oid, (o.Count+1)%(maxCount+1), o.Calls) {
				p.tells(owns(by.bank, k), told{})
			}
			p.tells(owns(by.bank, api.Key{Kind: 7, Oid: oid, Count: o.Count, Call: (o.Calls + 1) % (maxCount + 1)}), told{})
		}
		for _, k := range slices.Concat(ofNothing(), wrongKeys(), naming(16, 0, 0), naming(63, 1, 0)) {
			p.tells(owns(by.bank, k), told{})
		}
	}
	p.has(w...)
}

func TestOwnsOfTheOwnNode(t *testing.T) {
	p := pairOf(t, town())
	for _, k := range []api.Key{nodeKey(10, 1), with(nodeKey(10, 1), 7), ten()} {
		p.tells(owns(ten(), k), told{is: true})
		p.tells(owns(all(), k), told{is: true})
		p.tells(owns(one(), k), told{})
	}
	p.tells(owns(one(), nodeKey(1, 3)), told{})
	p.tells(owns(one(), one()), told{})
	p.tells(owns(all(), all()), told{is: true})
}

// Range

func TestRange(t *testing.T) {
	p := pairOf(t, town())
	p.tells(span(one()), told{first: 2, last: 9})
	p.tells(span(ten()), told{first: 8, last: 13})
	p.tells(span(all()), told{first: 0, last: 15})
	p.set(11, bankNode(2, 0, 15, 15))
	p.tells(span(bank(11, 2)), told{first: 15, last: 15})
	p.set(11, bankNode(2, 0, 0, 0))
	p.tells(span(bank(11, 2)), told{})
}

// What is there counts

// A bank is what its node says now: nothing of an earlier call is kept.
func TestBanksGoByTheStore(t *testing.T) {
	p := pairOf(t, world{bankNode(1, 0, 1, 2), {}, {}, {}, {}})
	k := bank(0, 1)
	p.tells(mk(k, aNode), told{key: nodeKey(1, 1)})
	p.set(0, bankNode(1, 0, 4, 4))
	p.tells(mk(k, aNode), told{key: nodeKey(4, 1)})
	p.refuses(destroy(k, nodeKey(1, 1)), errRange)
	p.set(0, bankNode(1, 0, 4, 5))
	p.refuses(mk(k, aNode), errBank)
	p.set(0, bankNode(2, 0, 1, 3))
	p.refuses(mk(k, aNode), errKey)
	p.tells(mk(bank(0, 2), aPage), told{key: pageKey(2, 1)})
	p.set(0, page(2))
	p.refuses(span(bank(0, 2)), errKey)
}

// Each of two stores is asked by itself.
func TestStoresGoOnApart(t *testing.T) {
	a, b := pairOf(t, town()), pairOf(t, town())
	c := &pair{t: t, s: a.s.Copy(), want: town()}
	a.does(mk(one(), aNode))
	a.does(raze(ten()))
	a.does(split(all(), 1))
	b.does(destroy(one(), nodeKey(2, 4)))
	b.does(split(one(), 1))
	a.holds("another store was changed")
	b.holds("another store was changed")
	c.holds("a copy was changed")
	c.does(split(ten(), 1))
	a.holds("the first one of a copy was changed")
}

// All that an Oid may be, at each place of a bank: each call answers as the document does.
func TestAllBanksOfThree(t *testing.T) {
	states := []api.Object{none(free, 0), none(free, maxCount-1), none(free, maxCount), none(retired, maxCount), none(retired, 1), full(aNode, 2, 1), page(maxCount)}
	for n := range 7 * 7 * 7 {
		l := []api.Object{states[n%7], states[n/7%7], states[n/49%7]}
		for where := range 3 {
			w, k := row(l...)
			if where > 0 {
				w, k = rowWithin(where == 1, l...)
			}
			for n := range 5 {
				p := pairOf(t, w)
				if p.does(split(k, n)).e == ok {
					p.does(split(k, 1))
				}
				for range 4 {
					p.does(mk(k, aNode))
					p.does(split(k, n))
				}
				p.does(raze(k))
				p.does(mk(k, aPage))
				p.does(split(k, n))
				p.staysDead()
			}
		}
	}
}

// All that may be asked, and may not: no call gives up, and each answers as the document does.
func TestAllThatMayBeAsked(t *testing.T) {
	l := slices.Concat(leadNowhere(), []api.Key{one(), ten(), all(), bank(11, 2), bank(2, 4)})
	for _, by := range []api.Key{one(), ten(), all(), bank(11, 2), bank(2, 4), bank(1, 2), bare(-1), bare(math.MaxInt)} {
		p := pairOf(t, town())
		for _, k := range l {
			p.does(destroy(by, k))
			p.does(owns(by, k))
			p.does(span(k))
		}
		for _, n := range append(extremes(), 0, 1, 2, 3, 4, 7, 8, 9, 15, 16, 17) {
			p.does(mk(by, api.ObjKind(n)))
			p.does(split(by, n))
		}
		p.does(raze(by))
		p.staysDead()
	}
}

// Many calls in no order

// chance is numbers that are the same each time.
func chance(from uint32) func(n int) int {
	return func(n int) int {
		from = from*1664525 + 1013904223
		return int(from>>8) % n
	}
}

func pick[T any](next func(n int) int, l []T) T { return l[next(len(l))] }

// someWorld is a bank of all, with its own node or not, and others of all kinds; many of their numbers are nearly used up.
func someWorld(next func(n int) int, n int) world {
	w := world{bankNode(1, 0, next(2), n-1)}
	for len(w) < n {
		count := pick(next, []int64{0, 0, 1, 5, maxCount - 9, maxCount - 3, maxCount - 2, maxCount - 1, maxCount})
		w = append(w, []api.Object{none(free, count), none(free, count), full(aNode, count, int64(next(3))), page(count), none(retired, count)}[next(5)])
	}
	return w
}

// someBank is mostly the key of a bank, by chance that of all.
func (w world) someBank(next func(n int) int) api.Key {
	for range 40 {
		oid := next(len(w))
		if k := bank(oid, w[oid].Count); w.leads(k) == ok && next(4) > 0 {
			return k
		}
	}
	switch oid := next(len(w)); next(12) {
	case 0:
		return pick(next, wrongKeys())
	case 1:
		return pick(next, naming(oid, w[oid].Count, w[oid].Calls))
	}
	return bank(0, 1)
}

// someKey is of any kind, of an object that is there or just not; mostly it counts, and is a node's or a page's.
func (w world) someKey(next func(n int) int) api.Key {
	oid := next(len(w))
	switch next(20) {
	case 0:
		return pick(next, slices.Concat(wrongKeys(), ofNothing()))
	case 1:
		return pick(next, naming(oid, int64(next(4)), 0))
	case 2, 3, 4:
		return pick(next, naming(oid, w[oid].Count, w[oid].Calls))
	}
	return key(2+api.KeyKind(w[oid].Kind)/2, oid, w[oid].Count)
}

func (p *pair) someCall(next func(n int) int) call {
	by := p.want.someBank(next)
	switch next(24) {
	case 0:
		return raze(by)
	case 1, 2, 3, 4:
		return split(by, 1+next(next(len(p.want))+1))
	case 5, 6, 7, 8, 9, 10:
		return destroy(by, p.want.someKey(next))
	case 11, 12:
		return owns(by, p.want.someKey(next))
	case 13:
		return span(by)
	case 14:
		return each(by, pick(next, wrongKinds()), p.want.someKey(next), pick(next, extremes()))[next(3)]
	}
	return mk(by, api.ObjKind(1+next(2)))
}

// bankSomewhere makes a node a bank, but for that of all, by the store's own call; mostly of Oids that the store has.
func (p *pair) bankSomewhere(next func(n int) int) {
	oid := 1 + next(len(p.want)-1)
	o := p.want[oid]
	if o.Kind != aNode {
		return
	}
	first := next(len(p.want))
	o.Slots[0], o.Slots[1] = number(first), number(first+next(len(p.want)-first+2)-next(2))
	p.set(oid, o)
}

func TestManyCalls(t *testing.T) {
	type seen struct {
		which int
		e     api.Errno
	}
	came := make(map[seen]int)
	for i := range 120 {
		next := chance(uint32(i))
		p := pairOf(t, someWorld(next, []int{2, 3, 5, 8, 8, 13, 20, 64}[i%8]))
		for range 250 {
			c := p.someCall(next)
			came[seen{c.which, p.does(c).e}]++
			if next(6) == 0 {
				p.bankSomewhere(next)
			}
		}
		p.staysDead()
	}
	for which, l := range [][]api.Errno{
		makes: {ok, errKey, errArg, errFull}, destroys: {ok, errKey, errNone, errRange}, splits: {ok, errKey, errRange, errFull}, razes: {ok, errKey}, asksOwns: {ok, errKey}, asksRange: {ok, errKey},
	} {
		for _, e := range l {
			if came[seen{which, e}] < 15 {
				t.Errorf("the call %d answered %d only %d times", which, e, came[seen{which, e}])
			}
		}
	}
}
