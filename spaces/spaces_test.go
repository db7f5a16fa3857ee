package spaces_test

import (
	"math"
	"slices"
	"strings"
	"testing"

	"chatelaine/api"
	"chatelaine/objects"
	"chatelaine/spaces"
)

// What the document says of spaces stands here once more, in plain words and numbers of its own.

const (
	maxCount = 4294967295
	maxAddr  = math.MaxInt64

	ok       = api.Errno(0)
	errNil   = api.Errno(1)
	errArg   = api.Errno(2)
	errRange = api.Errno(4)
	errKey   = api.Errno(190)
	errRight = api.Errno(191)

	faultVoid  = api.FaultKind(1)
	faultRange = api.FaultKind(2)
	faultDepth = api.FaultKind(3)
	faultForm  = api.FaultKind(4)
	faultCross = api.FaultKind(5)
	faultRight = api.FaultKind(6)
)

type slots = [16]api.Key

// world is what a store should have; one of no objects stands for no store.
type world []api.Object

// each is how many addresses each slot of a node has, by its height.
func each() [9]int64 {
	return [9]int64{1: 64, 1024, 16384, 262144, 4194304, 67108864, 1073741824, 17179869184}
}

// span is how many addresses a space has, by its height.
func span() [9]int64 {
	return [9]int64{64, 896, 14336, 229376, 3670016, 58720256, 939524096, 15032385536, 240518168576}
}

// mayBe tells whether a key may be.
func mayBe(k api.Key) bool {
	if k.Kind < 0 || k.Kind > 10 {
		return false
	}
	bare := api.Key{Kind: k.Kind}
	object := k.Oid >= 0 && k.Oid <= 63 && k.Count >= 0 && k.Count <= maxCount
	switch k.Kind {
	case 0, 8, 9, 10:
		return k == bare
	case 1:
		bare.Value = k.Value
		return k == bare
	}
	bare.Oid, bare.Count = k.Oid, k.Count
	switch k.Kind {
	case 2:
		bare.Rights = k.Rights & 7
	case 3:
		bare.Rights = k.Rights & 1
	case 6:
		bare.Value = k.Value
	case 7:
		bare.Call = k.Call
		object = object && k.Call >= 0 && k.Call <= maxCount
	}
	return object && k == bare
}

func ofAnObject(k api.Key) bool { return k.Kind >= 2 && k.Kind <= 7 }

// counts tells whether a key counts.
func (w world) counts(k api.Key) bool {
	if !mayBe(k) || !ofAnObject(k) {
		return mayBe(k)
	}
	if k.Oid >= len(w) || w[k.Oid].Count != k.Count {
		return false
	}
	if k.Kind == 3 {
		return w[k.Oid].Kind == 2
	}
	return w[k.Oid].Kind == 1 && (k.Kind != 7 || w[k.Oid].Calls == k.Call)
}

// got tells what a node's slot tells by a key that leads to it.
func (w world) got(by api.Key, slot int) api.Key {
	k := w[by.Oid].Slots[slot]
	if !w.counts(k) {
		return api.Key{}
	}
	if by.Rights/2%2 == 0 {
		return k
	}
	switch k.Kind {
	case 2:
		k.Rights |= 3
	case 3:
		k.Rights = 1
	case 4, 5, 6, 7, 9, 10:
		return api.Key{}
	}
	return k
}

// walk goes as the chapter's words do, one behind the other.
func (w world) walk(k api.Key, addr int64) (api.Found, api.Fault) {
	keeper, left, ahead := api.Key{}, addr, int64(9)
	readOnly, noCall := false, false
	for depth := 0; ; depth++ {
		fault := func(kind api.FaultKind) (api.Found, api.Fault) {
			return api.Found{}, api.Fault{Kind: kind, Keeper: keeper, Addr: addr}
		}
		if !w.counts(k) || k.Kind != 2 && k.Kind != 3 {
			return fault(faultVoid)
		}
		if k.Kind == 3 {
			if left > 63 {
				return fault(faultRange)
			}
			if readOnly {
				k.Rights = 1
			}
			return api.Found{Page: k, At: int(left), Keeper: keeper, Depth: depth}, api.Fault{}
		}
		if depth == 8 {
			return fault(faultDepth)
		}
		readOnly = readOnly || k.Rights%4 > 0
		noCall = noCall || k.Rights > 3
		h, keeps := w[k.Oid].Slots[15], w[k.Oid].Slots[14]
		if h.Kind != 1 || h.Value < 1 || h.Value > 8 || h.Value >= ahead {
			return fault(faultForm)
		}
		if keeps.Kind == 6 && w.counts(keeps) && !noCall {
			keeper = keeps
		}
		slot := left / each()[h.Value]
		if slot > 13 {
			return fault(faultRange)
		}
		k, left, ahead = w.got(k, int(slot)), left-slot*each()[h.Value], h.Value
	}
}

// refuses tells what refuses n bytes at an address.
func (w world) refuses(root api.Key, addr int64, n int) api.Errno {
	switch {
	case len(w) == 0:
		return errNil
	case !mayBe(root) || ofAnObject(root) && root.Oid >= len(w):
		return errArg
	case addr < 0 || n < 0 || n > 64:
		return errRange
	}
	return ok
}

// place tells where n bytes are, to be read, or to be written.
func (w world) place(root api.Key, addr int64, n int, write bool) (api.Found, api.Fault, api.Errno) {
	if e := w.refuses(root, addr, n); e != ok {
		return api.Found{}, api.Fault{}, e
	}
	x, f := w.walk(root, addr)
	fault := func(kind api.FaultKind) (api.Found, api.Fault, api.Errno) {
		return api.Found{}, api.Fault{Kind: kind, Keeper: x.Keeper, Addr: addr}, ok
	}
	switch {
	case f.Kind != 0:
		return x, f, ok
	case x.At+n > 64:
		return fault(faultCross)
	case write && x.Page.Rights == 1:
		return fault(faultRight)
	}
	return x, f, ok
}

func (w world) load(root api.Key, addr int64, n int) (string, api.Fault, api.Errno) {
	x, f, e := w.place(root, addr, n, false)
	if f.Kind != 0 || e != ok {
		return "", f, e
	}
	var told []byte
	for i := range n {
		told = append(told, w[x.Page.Oid].Bytes[x.At+i])
	}
	return string(told), f, e
}

func (w world) store(root api.Key, addr int64, b string) (api.Fault, api.Errno) {
	x, f, e := w.place(root, addr, len(b), true)
	if f.Kind == 0 && e == ok {
		for i := range len(b) {
			w[x.Page.Oid].Bytes[x.At+i] = b[i]
		}
	}
	return f, e
}

func (w world) form(k api.Key, height int) api.Errno {
	switch {
	case len(w) == 0:
		return errNil
	case height < 1 || height > 8:
		return errArg
	case k.Kind != 2 || !w.counts(k):
		return errKey
	case k.Rights%4 > 0:
		return errRight
	}
	w[k.Oid].Slots[15] = number(int64(height))
	return ok
}

// Keys to try

func key(kind api.KeyKind, oid int, count int64) api.Key {
	return api.Key{Kind: kind, Oid: oid, Count: count}
}

func bare(kind api.KeyKind) api.Key { return api.Key{Kind: kind} }

func number(n int64) api.Key { return api.Key{Kind: 1, Value: n} }

func nodeKey(oid int, count int64, r api.Rights) api.Key {
	return api.Key{Kind: 2, Oid: oid, Count: count, Rights: r}
}

func pageKey(oid int, count int64, r api.Rights) api.Key {
	return api.Key{Kind: 3, Oid: oid, Count: count, Rights: r}
}

func start(oid int, count, badge int64) api.Key {
	return api.Key{Kind: 6, Oid: oid, Count: count, Value: badge}
}

func resume(oid int, count, call int64) api.Key {
	return api.Key{Kind: 7, Oid: oid, Count: count, Call: call}
}

// by is a key with other Rights.
func by(k api.Key, r api.Rights) api.Key {
	k.Rights = r
	return k
}

// naming are keys of each kind that names an object, of that Oid and Count; resume keys with that Call.
func naming(oid int, count, call int64) []api.Key {
	l := []api.Key{
		pageKey(oid, count, 0), pageKey(oid, count, 1), key(4, oid, count), key(5, oid, count),
		start(oid, count, 0), start(oid, count, -9), resume(oid, count, call),
	}
	for r := range api.Rights(8) {
		l = append(l, nodeKey(oid, count, r))
	}
	return l
}

// ofNothing are keys of no object.
func ofNothing() []api.Key {
	return []api.Key{{}, number(0), number(1), number(8), number(-7), number(math.MinInt64), number(math.MaxInt64), bare(8), bare(9), bare(10)}
}

// wrongKeys are keys that may not be, in whatever store; many of them are one that counts in the town but for one part.
func wrongKeys() []api.Key {
	return []api.Key{
		bare(-1), bare(11), bare(256), bare(258), bare(1<<32 + 2), bare(math.MinInt), bare(math.MaxInt), key(-2, 1, 2), key(11, 1, 2), key(258, 1, 2), key(1<<32+3, 4, 5),
		{Oid: 1}, {Count: 1}, {Call: 1}, {Rights: 1}, {Value: 1}, {Kind: 1, Oid: 1}, {Kind: 1, Count: 1}, {Kind: 1, Rights: 1},
		{Kind: 8, Value: 1}, {Kind: 9, Oid: 1}, {Kind: 10, Call: 1}, {Kind: 10, Rights: 2},
		nodeKey(-1, 2, 0), nodeKey(64, 2, 0), nodeKey(65, 2, 0), nodeKey(257, 2, 0), nodeKey(1<<32+1, 2, 0), nodeKey(math.MaxInt, 2, 0), nodeKey(math.MinInt, 2, 0),
		nodeKey(1, -1, 0), nodeKey(1, maxCount+1, 0), nodeKey(1, maxCount+3, 0), nodeKey(1, math.MaxInt64, 0), nodeKey(1, math.MinInt64, 0),
		nodeKey(1, 2, -1), nodeKey(1, 2, 8), nodeKey(1, 2, -8), nodeKey(1, 2, 16), nodeKey(1, 2, math.MinInt), nodeKey(1, 2, math.MaxInt),
		{Kind: 2, Oid: 1, Count: 2, Call: 1}, {Kind: 2, Oid: 1, Count: 2, Value: 1}, {Kind: 2, Oid: 1, Count: 2, Call: -1},
		pageKey(4, 5, 2), pageKey(4, 5, 4), pageKey(4, 5, 3), pageKey(4, 5, 7), pageKey(4, 5, -1), pageKey(-1, 5, 0), pageKey(64, 5, 0), pageKey(4, -5, 0), pageKey(4, maxCount+6, 0),
		{Kind: 3, Oid: 4, Count: 5, Value: 1}, {Kind: 3, Oid: 4, Count: 5, Call: 1},
		{Kind: 4, Oid: 1, Count: 2, Rights: 1}, key(4, 64, 1), key(4, -1, 1), {Kind: 5, Oid: 1, Count: 2, Value: 1}, key(5, 64, 1), key(5, 0, -1),
		{Kind: 6, Oid: 1, Count: 2, Call: 1}, start(64, 1, 1), {Kind: 6, Oid: 1, Count: 2, Rights: 4}, resume(1, 2, -1), resume(1, 2, maxCount+1), resume(-1, 1, 0),
	}
}

// Addresses and numbers to try

// addresses are such as lie at the edges of slots, of spaces and of what an int holds.
func addresses() []int64 {
	l := []int64{0, 1, 62, 63, 64, 65, 127, 128, 1 << 31, 1 << 32, 1 << 40, maxAddr - 1, maxAddr, maxAddr - 63, 1<<62 + 1}
	for h := 1; h <= 8; h++ {
		n := each()[h]
		l = append(l, n-1, n, 2*n+5, 13*n, 13*n+63, span()[h]-1, span()[h], 15*n-1, 15*n, 16*n-1)
	}
	return l
}

func wrongAddresses() []int64 {
	return []int64{-1, -2, -63, -64, -65, -896, -1 << 31, -1 << 32, -1 << 34, math.MinInt64, math.MinInt64 + 1, math.MinInt64 + 64}
}

func numbers() []int { return []int{0, 1, 2, 62, 63, 64} }

func wrongNumbers() []int {
	return []int{-1, 65, -2, 66, -64, 128, 256, 1 << 31, 1 << 32, 1<<32 + 1, -1 << 32, math.MaxInt, math.MaxInt - 63, math.MinInt, math.MinInt + 1}
}

func wrongHeights() []int {
	return []int{-1, 0, 9, 10, 16, -8, 64, 255, 256, 257, 264, 1 << 31, 1 << 32, 1<<32 + 1, -1<<32 + 1, math.MaxInt, math.MaxInt - 7, math.MinInt, math.MinInt + 1}
}

// wave is n bytes that are not those of the pages here.
func wave(n int) string {
	var b strings.Builder
	for i := range n {
		b.WriteByte(byte(255 - i*7))
	}
	return b.String()
}

func rising(from byte) (b [64]byte) {
	for i := range b {
		b[i] = from + byte(i)
	}
	return b
}

// Stores to try

func page(count int64, from byte) api.Object {
	return api.Object{Kind: 2, Count: count, Bytes: rising(from)}
}

// node is a node of a height, with keys in the slots from 0 on.
func node(count, height int64, l ...api.Key) api.Object {
	o := api.Object{Kind: 1, Count: count, Calls: 3, Bytes: rising(byte(count * 5))}
	copy(o.Slots[:], l)
	o.Slots[15] = number(height)
	return o
}

// rung is a node on a way: its height, the slot that leads on, the rights of the key that leads to it, its keeper.
type rung struct {
	height int64
	slot   int
	rights api.Rights
	keeper api.Key
}

// ladder is a world whose nodes 0 and on lead to one another, the last one to a page; and a page and a node to which nothing leads. Told are the root, and the address of the page's byte 0.
func ladder(last api.Rights, l ...rung) (world, api.Key, int64) {
	var w world
	addr, n := int64(0), len(l)
	for i, x := range l {
		o := node(int64(i+1), x.height)
		o.Slots[14] = x.keeper
		o.Slots[x.slot] = pageKey(n, int64(n+1), last)
		if i+1 < n {
			o.Slots[x.slot] = nodeKey(i+1, int64(i+2), l[i+1].rights)
		}
		w = append(w, o)
		addr += int64(x.slot) * each()[x.height]
	}
	w = append(w, page(int64(n+1), 100), page(7, 30), node(9, 1, pageKey(n+1, 7, 0)))
	if n == 0 {
		return w, pageKey(0, 1, last), 0
	}
	return w, nodeKey(0, 1, l[0].rights), addr
}

// falling are rungs of the heights from the greatest one to 1, all with that slot.
func falling(from, slot int) (l []rung) {
	for h := from; h > 0; h-- {
		l = append(l, rung{height: int64(h), slot: slot})
	}
	return l
}

// town has objects of all kinds: 0 a node of height 3, 1 one of height 2, 2 and 3 of height 1; 4, 5, 6 pages; 7 free, 8 retired; 9 a node of no height, 10 one of height 9, 11 leads to itself.
func town() world {
	w := world{
		node(1, 3, nodeKey(1, 2, 0), nodeKey(2, 3, 0), pageKey(4, 5, 0), nodeKey(1, 2, 1), nodeKey(1, 2, 2), nodeKey(1, 2, 4), nodeKey(9, 0, 0), nodeKey(0, 1, 0), nodeKey(10, maxCount, 0)),
		node(2, 2, nodeKey(2, 3, 0), nodeKey(3, 4, 7), pageKey(5, maxCount, 1), nodeKey(1, 2, 0), nodeKey(0, 1, 0), key(4, 2, 3), nodeKey(3, 4, 0), nodeKey(2, 2, 0)),
		node(3, 1, pageKey(4, 5, 0), pageKey(5, maxCount, 0), pageKey(6, 0, 1), pageKey(4, 4, 0), pageKey(3, 4, 0), nodeKey(2, 3, 0), number(5), start(2, 3, 1), resume(2, 3, 3), key(5, 2, 3), bare(8)),
		node(4, 1, pageKey(6, 0, 0), pageKey(6, 0, 1), nodeKey(4, 5, 0)),
		page(5, 33), page(maxCount, 150), page(0, 0),
		{Kind: 0, Count: 5}, {Kind: 3, Count: maxCount},
		node(0, 0, pageKey(4, 5, 0)), node(maxCount, 9, pageKey(4, 5, 0)), node(12, 8, nodeKey(11, 12, 0), nodeKey(11, 12, 7)),
	}
	for oid := range 4 {
		w[oid].Slots[13] = pageKey(5, maxCount, 0)
	}
	w[0].Slots[14], w[1].Slots[14], w[2].Slots[14], w[3].Slots[14] = start(0, 1, 10), start(3, 4, 11), start(3, 9, 12), start(3, 4, 13)
	w[11].Slots[14], w[9].Slots[14] = start(11, 12, -1), start(11, 12, -2)
	return w
}

// none are stores that are not there.
func none() map[string]*objects.Store {
	return map[string]*objects.Store{"nil": nil, "zero": {}}
}

// roots are keys of all kinds, those that count in a world and those that do not.
func (w world) roots() []api.Key {
	l := ofNothing()
	for oid, o := range w {
		l = slices.Concat(l, naming(oid, o.Count, o.Calls))
		l = append(l, nodeKey(oid, (o.Count+1)%maxCount, 0), pageKey(oid, (o.Count+1)%maxCount, 0), nodeKey(oid, (o.Count+maxCount)%(maxCount+1), 5))
	}
	return l
}

// pair is a store, and beside it what it should have.
type pair struct {
	t    *testing.T
	s    *objects.Store
	want world
}

func pairOf(t *testing.T, w world) *pair {
	t.Helper()
	s, e := objects.Of(w...)
	if e != ok {
		t.Fatalf("no such store: %v", e)
	}
	return &pair{t, s, slices.Clone(w)}
}

// holds asks that the store has what it should, part by part and byte by byte.
func (p *pair) holds(what string) {
	p.t.Helper()
	if p.s.Size() != len(p.want) {
		p.t.Fatalf("%s: %d objects, want %d", what, p.s.Size(), len(p.want))
	}
	for oid, o := range p.s.All() {
		if o != p.want[oid] {
			p.t.Fatalf("%s: the object %d is %v, want %v", what, oid, o, p.want[oid])
		}
	}
}

// finds asks that a walk tells just that.
func (p *pair) finds(root api.Key, addr int64, want api.Found) {
	p.t.Helper()
	x, f, e := spaces.Walk(p.s, root, addr)
	if x != want || f != (api.Fault{}) || e != ok {
		p.t.Fatalf("Walk(%v, %d) = %v, %v, %v, want %v", root, addr, x, f, e, want)
	}
	p.holds("Walk")
}

// faults asks that a walk, and each access there, ends with just that fault.
func (p *pair) faults(root api.Key, addr int64, kind api.FaultKind, keeper api.Key) {
	p.t.Helper()
	want := api.Fault{Kind: kind, Keeper: keeper, Addr: addr}
	x, f, e := spaces.Walk(p.s, root, addr)
	if x != (api.Found{}) || f != want || e != ok {
		p.t.Fatalf("Walk(%v, %d) = %v, %v, %v, want %v", root, addr, x, f, e, want)
	}
	for _, n := range []int{0, 1, 64} {
		b, f, e := spaces.Load(p.s, root, addr, n)
		if b != "" || f != want || e != ok {
			p.t.Fatalf("Load(%v, %d, %d) = %q, %v, %v, want %v", root, addr, n, b, f, e, want)
		}
		f, e = spaces.Store(p.s, root, addr, wave(n))
		if f != want || e != ok {
			p.t.Fatalf("Store(%v, %d, %d bytes) = %v, %v, want %v", root, addr, n, f, e, want)
		}
	}
	p.holds("a fault")
}

// loads asks that a load tells just that.
func (p *pair) loads(root api.Key, addr int64, want string) {
	p.t.Helper()
	b, f, e := spaces.Load(p.s, root, addr, len(want))
	if b != want || f != (api.Fault{}) || e != ok {
		p.t.Fatalf("Load(%v, %d, %d) = %q, %v, %v, want %q", root, addr, len(want), b, f, e, want)
	}
	p.holds("Load")
}

// loadFaults and storeFaults ask that an access ends with just that fault.
func (p *pair) loadFaults(root api.Key, addr int64, n int, kind api.FaultKind, keeper api.Key) {
	p.t.Helper()
	want := api.Fault{Kind: kind, Keeper: keeper, Addr: addr}
	b, f, e := spaces.Load(p.s, root, addr, n)
	if b != "" || f != want || e != ok {
		p.t.Fatalf("Load(%v, %d, %d) = %q, %v, %v, want %v", root, addr, n, b, f, e, want)
	}
	p.holds("Load")
}

func (p *pair) storeFaults(root api.Key, addr int64, n int, kind api.FaultKind, keeper api.Key) {
	p.t.Helper()
	want := api.Fault{Kind: kind, Keeper: keeper, Addr: addr}
	f, e := spaces.Store(p.s, root, addr, wave(n))
	if f != want || e != ok {
		p.t.Fatalf("Store(%v, %d, %d bytes) = %v, %v, want %v", root, addr, n, f, e, want)
	}
	p.holds("Store")
}

// walk, load, store and form ask that a call answers as the world does, and that the store is as the world is behind it.
func (p *pair) walk(root api.Key, addr int64) {
	p.t.Helper()
	want, wantF, wantE := p.want.place(root, addr, 0, false)
	x, f, e := spaces.Walk(p.s, root, addr)
	if x != want || f != wantF || e != wantE {
		p.t.Fatalf("Walk(%v, %d) = %v, %v, %v, want %v, %v, %v", root, addr, x, f, e, want, wantF, wantE)
	}
	p.holds("Walk")
}

func (p *pair) load(root api.Key, addr int64, n int) {
	p.t.Helper()
	want, wantF, wantE := p.want.load(root, addr, n)
	b, f, e := spaces.Load(p.s, root, addr, n)
	if b != want || f != wantF || e != wantE {
		p.t.Fatalf("Load(%v, %d, %d) = %q, %v, %v, want %q, %v, %v", root, addr, n, b, f, e, want, wantF, wantE)
	}
	p.holds("Load")
}

func (p *pair) store(root api.Key, addr int64, b string) {
	p.t.Helper()
	wantF, wantE := p.want.store(root, addr, b)
	f, e := spaces.Store(p.s, root, addr, b)
	if f != wantF || e != wantE {
		p.t.Fatalf("Store(%v, %d, %q) = %v, %v, want %v, %v", root, addr, b, f, e, wantF, wantE)
	}
	p.holds("Store")
}

func (p *pair) form(k api.Key, height int) {
	p.t.Helper()
	want := p.want.form(k, height)
	if e := spaces.Form(p.s, k, height); e != want {
		p.t.Fatalf("Form(%v, %d) = %v, want %v", k, height, e, want)
	}
	p.holds("Form")
}

// set puts an object into the store by the store's own call.
func (p *pair) set(oid int, o api.Object) {
	p.t.Helper()
	if e := p.s.Put(oid, o); e != ok {
		p.t.Fatalf("the store takes no such object: %v", e)
	}
	p.want[oid] = o
}

// slot puts a key into a node's slot, whatever key it is.
func (p *pair) slot(oid, slot int, k api.Key) {
	p.t.Helper()
	o := p.want[oid]
	o.Slots[slot] = k
	p.set(oid, o)
}

// The chapter's examples

func TestTheChaptersExamples(t *testing.T) {
	p := pairOf(t, world{page(1, 9), node(1, 1, api.Key{}, api.Key{}, pageKey(0, 1, 0)), node(2, 1, nodeKey(1, 1, 0))})
	k := nodeKey(1, 1, 0)
	p.finds(k, 130, api.Found{Page: pageKey(0, 1, 0), At: 2, Depth: 1})
	p.faults(k, 64, faultVoid, api.Key{})
	p.faults(k, 900, faultRange, api.Key{})
	p.faults(nodeKey(2, 2, 0), 0, faultForm, api.Key{})
	p.faults(nodeKey(2, 2, 0), 130, faultVoid, api.Key{})
	p.slot(1, 1, pageKey(0, 1, 0))
	p.storeFaults(k, 127, 2, faultCross, api.Key{})
	p.loadFaults(k, 127, 2, faultCross, api.Key{})
	p.store(k, 127, "z")
	p.loads(k, 191, "z")
}

// Example 6 of the whole.
func TestAReadOnlyKeyOfTheNode(t *testing.T) {
	p := pairOf(t, world{page(1, 9), node(1, 1, api.Key{}, api.Key{}, pageKey(0, 1, 0))})
	p.store(nodeKey(1, 1, 0), 130, "a")
	p.storeFaults(nodeKey(1, 1, 1), 130, 1, faultRight, api.Key{})
	p.loads(nodeKey(1, 1, 1), 130, "a")
}

// A page as the root

func TestAPageAsRoot(t *testing.T) {
	p := pairOf(t, world{node(1, 1), page(2, 50)})
	for r := range api.Rights(2) {
		k := pageKey(1, 2, r)
		for at := range int64(64) {
			p.finds(k, at, api.Found{Page: k, At: int(at)})
			for n := range 66 {
				p.load(k, at, n)
				p.store(k, at, wave(n))
			}
		}
		for _, addr := range addresses() {
			if addr >= 64 {
				p.faults(k, addr, faultRange, api.Key{})
			}
		}
	}
}

// Each height

// slotsOf is a node of a height with a page in each slot that may be a space, and its key.
func slotsOf(height int64) (world, api.Key) {
	w := world{node(1, height)}
	for slot := range 14 {
		w[0].Slots[slot] = pageKey(slot+1, int64(slot), 0)
		w = append(w, page(int64(slot), byte(slot*16)))
	}
	return w, nodeKey(0, 1, 0)
}

func TestEachSlotOfEachHeight(t *testing.T) {
	for h := 1; h <= 8; h++ {
		w, k := slotsOf(int64(h))
		p, part := pairOf(t, w), each()[h]
		for slot := range int64(14) {
			want := api.Found{Page: pageKey(int(slot+1), slot, 0), Depth: 1}
			for _, at := range []int64{0, 1, 63} {
				want.At = int(at)
				p.finds(k, slot*part+at, want)
				p.load(k, slot*part+at, int(64-at))
				p.store(k, slot*part+at, wave(int(64-at)))
				p.loads(want.Page, at, wave(int(64-at)))
			}
			if h > 1 {
				p.faults(k, slot*part+64, faultRange, api.Key{})
				p.faults(k, slot*part+part-1, faultRange, api.Key{})
			}
		}
	}
}

// The slots 14 and 15 are no spaces, whatever is in them.
func TestNoSpaceInTheLastSlots(t *testing.T) {
	for h := 1; h <= 8; h++ {
		w, k := slotsOf(int64(h))
		for _, in := range []api.Key{{}, pageKey(1, 0, 0), nodeKey(0, 1, 0), start(0, 1, 5), number(1)} {
			keeper := api.Key{}
			if in.Kind == 6 {
				keeper = in
			}
			w[0].Slots[14] = in
			p, part := pairOf(t, w), each()[h]
			for _, addr := range []int64{14 * part, 14*part + 63, 15*part - 1, 15 * part, 15*part + 1, 16*part - 1, 16 * part, 17 * part, 32 * part, 1<<40 + part, maxAddr} {
				p.faults(k, addr, faultRange, keeper)
			}
		}
	}
}

// down tells of which heights the rungs are, all with that slot.
func down(slot int, heights ...int64) (l []rung) {
	for _, h := range heights {
		l = append(l, rung{height: h, slot: slot})
	}
	return l
}

func TestLaddersOfEachHeight(t *testing.T) {
	for h := 1; h <= 8; h++ {
		for slot := range 14 {
			w, root, addr := ladder(0, falling(h, slot)...)
			p := pairOf(t, w)
			for _, at := range []int64{0, 1, 62, 63} {
				p.finds(root, addr+at, api.Found{Page: pageKey(h, int64(h+1), 0), At: int(at), Depth: h})
			}
			p.store(root, addr, wave(64))
			p.loads(root, addr+10, wave(64)[10:])
			if slot > 0 {
				p.faults(root, 0, faultVoid, api.Key{})
				p.faults(root, addr-1, faultVoid, api.Key{})
			}
		}
	}
	w, root, addr := ladder(0, falling(8, 13)...)
	if addr != 238227519296 {
		t.Fatalf("the last page of height 8 begins at %d", addr)
	}
	p := pairOf(t, w)
	p.faults(root, addr+64, faultRange, api.Key{})
	p.faults(root, 240518168575, faultRange, api.Key{})
	p.faults(root, 240518168576, faultRange, api.Key{})
}

// Heights that are left out leave addresses to which nothing leads.
func TestHeightsThatAreLeftOut(t *testing.T) {
	for _, heights := range [][]int64{{2, 1}, {3, 1}, {8, 1}, {8, 7}, {8, 4, 2}, {7, 3}, {5}, {8}, {6, 5, 1}, {8, 7, 6, 5, 4, 3, 2, 1}, {8, 6, 4, 2}} {
		for _, slot := range []int{0, 1, 7, 13} {
			w, root, addr := ladder(0, down(slot, heights...)...)
			p, n := pairOf(t, w), len(heights)
			p.finds(root, addr+5, api.Found{Page: pageKey(n, int64(n+1), 0), At: 5, Depth: n})
			for i := 1; i < n; i++ {
				base := int64(0)
				for _, h := range heights[:i] {
					base += int64(slot) * each()[h]
				}
				for _, over := range []int64{span()[heights[i]], each()[heights[i-1]] - 1} {
					p.faults(root, base+over, faultRange, api.Key{})
				}
			}
			for _, addr := range addresses() {
				p.walk(root, addr)
			}
		}
	}
}

// Different slots on the way, each byte of the page.
func TestSlotsOnTheWay(t *testing.T) {
	l := []rung{{height: 8, slot: 3}, {height: 7, slot: 0}, {height: 5, slot: 13}, {height: 4, slot: 9}, {height: 2, slot: 1}, {height: 1, slot: 12}}
	w, root, addr := ladder(0, l...)
	if want := int64(3*17179869184 + 13*4194304 + 9*262144 + 1024 + 12*64); addr != want {
		t.Fatalf("%d, want %d", addr, want)
	}
	p := pairOf(t, w)
	for at := range int64(64) {
		p.finds(root, addr+at, api.Found{Page: pageKey(6, 7, 0), At: int(at), Depth: 6})
		p.store(root, addr+at, string([]byte{byte(3 * at)}))
		p.loads(root, addr, string(p.want[6].Bytes[:]))
	}
	p.faults(root, addr+64, faultVoid, api.Key{})
	p.faults(root, addr-1, faultVoid, api.Key{})
}

// P11.2: Span

func TestSpan(t *testing.T) {
	for h, want := range span() {
		if n := spaces.Span(h); n != want {
			t.Errorf("Span(%d) = %d, want %d", h, n, want)
		}
	}
	for _, h := range wrongHeights() {
		if n := spaces.Span(h); h != 0 && n != 0 {
			t.Errorf("Span(%d) = %d, want 0", h, n)
		}
	}
}

// Span is how many addresses are none of FaultRange, where each slot is void.
func TestSpanIsWhatANodeHas(t *testing.T) {
	for h := 1; h <= 8; h++ {
		p := pairOf(t, world{node(1, int64(h))})
		for _, addr := range []int64{0, 1, spaces.Span(h) / 2, spaces.Span(h) - 1} {
			p.faults(nodeKey(0, 1, 0), addr, faultVoid, api.Key{})
		}
		for _, addr := range []int64{spaces.Span(h), spaces.Span(h) + 1, 2 * spaces.Span(h)} {
			p.faults(nodeKey(0, 1, 0), addr, faultRange, api.Key{})
		}
	}
}

// P11.2: Form

func TestForm(t *testing.T) {
	for _, was := range []api.Key{{}, number(9), number(8), key(4, 1, 2), nodeKey(1, 7, 0), start(1, 2, 3), bare(10)} {
		for _, r := range []api.Rights{0, 4} {
			for h := 1; h <= 8; h++ {
				p := pairOf(t, town())
				p.slot(1, 15, was)
				want := p.want[1]
				want.Slots[15] = number(int64(h))
				if e := spaces.Form(p.s, nodeKey(1, 2, r), h); e != ok {
					t.Fatalf("Form(%d) by the rights %d: %v", h, r, e)
				}
				p.want[1] = want
				p.holds("Form")
			}
		}
	}
}

func TestFormOfAllKeys(t *testing.T) {
	for _, k := range slices.Concat(town().roots(), wrongKeys(), naming(12, 0, 0), naming(63, 1, 1)) {
		p := pairOf(t, town())
		for h := -1; h <= 9; h++ {
			p.form(k, h)
		}
		for _, h := range wrongHeights() {
			p.form(k, h)
		}
	}
}

func TestTheOrderOfFormsErrors(t *testing.T) {
	p := pairOf(t, town())
	says := func(what string, k api.Key, h int, want api.Errno) {
		t.Helper()
		if e := spaces.Form(p.s, k, h); e != want {
			t.Errorf("%s: Form(%v, %d) = %v, want %v", what, k, h, e, want)
		}
		p.holds(what)
	}
	leadNowhere := slices.Concat(wrongKeys(), ofNothing(), naming(12, 0, 0), naming(7, 5, 0), naming(8, maxCount, 0), naming(1, 3, 3), naming(4, 5, 0))
	for _, k := range leadNowhere {
		for _, h := range wrongHeights() {
			says("the height ahead of the key", k, h, errArg)
		}
		for h := 1; h <= 8; h++ {
			says("no node key that counts", k, h, errKey)
		}
	}
	for _, r := range []api.Rights{1, 2, 3, 5, 6, 7} {
		for _, h := range wrongHeights() {
			says("the height ahead of the rights", nodeKey(1, 2, r), h, errArg)
		}
		says("the key ahead of the rights", nodeKey(1, 3, r), 1, errKey)
		for h := 1; h <= 8; h++ {
			says("the rights", nodeKey(1, 2, r), h, errRight)
		}
	}
}

// A height that is given is one that the walk goes by, from then on.
func TestFormThenWalk(t *testing.T) {
	p := pairOf(t, world{page(1, 0), node(2, 0, api.Key{}, pageKey(0, 1, 0))})
	p.slot(1, 15, api.Key{})
	k := nodeKey(1, 2, 0)
	p.faults(k, 65, faultForm, api.Key{})
	for h := 1; h <= 8; h++ {
		if h > 1 {
			p.faults(k, each()[h]+1, faultRange, api.Key{})
		}
		p.form(k, h)
		p.finds(k, each()[h]+1, api.Found{Page: pageKey(0, 1, 0), At: 1, Depth: 1})
	}
}

// The errors, and their order

func TestNoStore(t *testing.T) {
	for name, s := range none() {
		for _, k := range slices.Concat(wrongKeys(), ofNothing(), naming(0, 0, 0), naming(63, 1, 1)) {
			for _, addr := range slices.Concat(addresses()[:15], wrongAddresses()) {
				x, f, e := spaces.Walk(s, k, addr)
				if x != (api.Found{}) || f != (api.Fault{}) || e != errNil {
					t.Fatalf("%s: Walk(%v, %d) = %v, %v, %v, want ErrNil", name, k, addr, x, f, e)
				}
				for _, n := range []int{0, 1, 64, 65, -1, math.MaxInt, math.MinInt} {
					b, f, e := spaces.Load(s, k, addr, n)
					if b != "" || f != (api.Fault{}) || e != errNil {
						t.Fatalf("%s: Load(%v, %d, %d) = %q, %v, %v, want ErrNil", name, k, addr, n, b, f, e)
					}
				}
				for _, n := range []int{0, 1, 64, 65} {
					f, e := spaces.Store(s, k, addr, wave(n))
					if f != (api.Fault{}) || e != errNil {
						t.Fatalf("%s: Store(%v, %d, %d bytes) = %v, %v, want ErrNil", name, k, addr, n, f, e)
					}
				}
			}
			for _, h := range slices.Concat(wrongHeights(), []int{1, 8}) {
				if e := spaces.Form(s, k, h); e != errNil {
					t.Fatalf("%s: Form(%v, %d) = %v, want ErrNil", name, k, h, e)
				}
			}
		}
		if s.Size() != 0 {
			t.Errorf("%s: it is a store now", name)
		}
	}
}

// refused asks that each of the three is refused, and tells nothing else.
func (p *pair) refused(k api.Key, addr int64, n int, want api.Errno) {
	p.t.Helper()
	if n >= 0 && n <= 64 {
		x, f, e := spaces.Walk(p.s, k, addr)
		if x != (api.Found{}) || f != (api.Fault{}) || e != want {
			p.t.Fatalf("Walk(%v, %d) = %v, %v, %v, want %v", k, addr, x, f, e, want)
		}
	}
	b, f, e := spaces.Load(p.s, k, addr, n)
	if b != "" || f != (api.Fault{}) || e != want {
		p.t.Fatalf("Load(%v, %d, %d) = %q, %v, %v, want %v", k, addr, n, b, f, e, want)
	}
	if n >= 0 && n <= 1000 {
		f, e := spaces.Store(p.s, k, addr, wave(n))
		if f != (api.Fault{}) || e != want {
			p.t.Fatalf("Store(%v, %d, %d bytes) = %v, %v, want %v", k, addr, n, f, e, want)
		}
	}
}

func TestRootsThatMayNotBe(t *testing.T) {
	p := pairOf(t, town())
	roots := slices.Concat(wrongKeys(), naming(12, 0, 0), naming(12, 5, 1), naming(13, 1, 0), naming(62, maxCount, maxCount), naming(63, 0, 0))
	for _, k := range roots {
		for _, addr := range slices.Concat(addresses()[:15], wrongAddresses()) {
			for _, n := range slices.Concat(numbers(), wrongNumbers()) {
				p.refused(k, addr, n, errArg)
			}
		}
	}
	p.holds("roots that may not be")
}

// An address, or a number, that may not be is asked of ahead of the walk: roots that lead nowhere are refused by it, too.
func TestAddressesAndNumbersThatMayNotBe(t *testing.T) {
	p := pairOf(t, town())
	for _, k := range town().roots() {
		for _, addr := range wrongAddresses() {
			for _, n := range []int{0, 1, 64, 65, -1, math.MaxInt, math.MinInt} {
				p.refused(k, addr, n, errRange)
			}
		}
		for _, addr := range []int64{0, 1, 63, 64, 900, 1 << 40, maxAddr} {
			for _, n := range wrongNumbers() {
				p.refused(k, addr, n, errRange)
			}
		}
	}
	p.holds("addresses and numbers that may not be")
	f, e := spaces.Store(p.s, pageKey(4, 5, 0), 0, wave(1<<20))
	if f != (api.Fault{}) || e != errRange {
		t.Errorf("a long text: %v, %v", f, e)
	}
}

// Each fault by itself

// leadNowhere are keys that a town may have, by which no space is come to.
func leadNowhere() []api.Key {
	l := ofNothing()
	for oid, o := range town() {
		for _, k := range naming(oid, o.Count, o.Calls) {
			if k.Kind > 3 || k.Kind == 2 && o.Kind != 1 || k.Kind == 3 && o.Kind != 2 {
				l = append(l, k)
			}
		}
		for r := range api.Rights(8) {
			l = append(l, nodeKey(oid, (o.Count+1)%maxCount, r), nodeKey(oid, (o.Count+maxCount)%(maxCount+1), r), pageKey(oid, (o.Count+1)%maxCount, r&1))
		}
	}
	return l
}

func TestFaultVoidAtTheRoot(t *testing.T) {
	p := pairOf(t, town())
	for _, k := range leadNowhere() {
		for _, addr := range []int64{0, 1, 63, 64, 900, 1 << 40, maxAddr} {
			p.faults(k, addr, faultVoid, api.Key{})
		}
	}
}

func TestFaultVoidOnTheWay(t *testing.T) {
	for _, r := range []api.Rights{0, 1, 2, 3} {
		p := pairOf(t, town())
		for _, k := range leadNowhere() {
			p.slot(2, 12, k)
			for _, at := range []int64{0, 63} {
				p.faults(nodeKey(2, 3, r), 12*64+at, faultVoid, api.Key{})
				p.faults(nodeKey(0, 1, r), 16384+12*64+at, faultVoid, start(0, 1, 10))
				p.faults(nodeKey(0, 1, r), 12*64+at, faultVoid, start(3, 4, 11))
			}
			p.slot(0, 12, k)
			for _, at := range []int64{0, 64, 16383} {
				p.faults(nodeKey(0, 1, r), 12*16384+at, faultVoid, start(0, 1, 10))
			}
		}
	}
}

func TestFaultRange(t *testing.T) {
	p := pairOf(t, town())
	root := nodeKey(0, 1, 0)
	p.faults(pageKey(4, 5, 0), 64, faultRange, api.Key{})
	p.faults(root, 2*16384+64, faultRange, start(0, 1, 10))   // the page in slot 2
	p.faults(root, 14*16384, faultRange, start(0, 1, 10))     // the root itself
	p.faults(root, 14*1024, faultRange, start(3, 4, 11))      // the node in slot 0
	p.faults(root, 16384+14*64, faultRange, start(0, 1, 10))  // the node in slot 1
	p.faults(root, 1024+14*64, faultRange, start(3, 4, 11))   // the node in slot 1 of that in slot 0
	p.faults(root, 2*1024+64, faultRange, start(3, 4, 11))    // the page in slot 2 of that in slot 0
	p.faults(root, 6*1024+15*64, faultRange, start(3, 4, 13)) // the node in slot 6 of that in slot 0
	p.faults(root, maxAddr, faultRange, start(0, 1, 10))
	p.faults(nodeKey(2, 3, 0), maxAddr, faultRange, api.Key{})
}

func TestFaultDepth(t *testing.T) {
	w, root, addr := ladder(0, falling(8, 5)...)
	for i := range 8 {
		w[i].Slots[14] = start(0, 1, int64(i))
	}
	keeper := start(0, 1, 7)
	deep := len(w) // of height 1, with a keeper of its own
	w = append(w, node(20, 1, pageKey(8, 9, 0)), node(21, 0), node(22, 8, pageKey(8, 9, 0)))
	w[deep].Slots[14] = start(0, 1, 99)
	p := pairOf(t, w)
	p.finds(root, addr+9, api.Found{Page: pageKey(8, 9, 0), At: 9, Keeper: keeper, Depth: 8})
	for _, k := range []api.Key{nodeKey(deep, 20, 0), nodeKey(deep, 20, 7), nodeKey(deep+1, 21, 0), nodeKey(deep+2, 22, 0), nodeKey(0, 1, 0), nodeKey(7, 8, 0), nodeKey(6, 7, 4)} {
		p.slot(7, 5, k)
		for _, at := range []int64{0, 1, 63} {
			p.faults(root, addr+at, faultDepth, keeper)
		}
		p.faults(root, addr+64, faultVoid, keeper)
	}
	for _, k := range []api.Key{{}, nodeKey(deep, 19, 0), pageKey(8, 8, 0), key(4, deep, 20), number(1), nodeKey(8, 9, 0), start(deep, 20, 0)} {
		p.slot(7, 5, k)
		p.faults(root, addr, faultVoid, keeper)
	}
	p.slot(7, 5, nodeKey(deep, 20, 0))
	p.faults(nodeKey(1, 2, 0), addr-5*each()[8], faultForm, keeper) // one node less was gone through
	p.slot(7, 5, pageKey(8, 9, 1))
	p.finds(root, addr, api.Found{Page: pageKey(8, 9, 1), Keeper: keeper, Depth: 8})
}

func TestFaultFormWithoutAHeight(t *testing.T) {
	heights := []api.Key{{}, number(0), number(9), number(-1), number(-8), number(16), number(257), number(264), number(1<<32 + 1), number(-1<<32 + 1), number(math.MaxInt64), number(math.MinInt64), number(math.MinInt64 + 1)}
	heights = slices.Concat(heights, naming(1, 2, 3), naming(1, 1, 1), naming(4, 5, 0), []api.Key{bare(8), bare(9), bare(10)})
	for badge := range int64(10) { // a badge is no number
		heights = append(heights, start(1, 2, badge), start(1, 3, badge))
	}
	for _, h := range heights {
		for _, r := range []api.Rights{0, 1, 2, 3, 4} {
			p := pairOf(t, town())
			p.slot(2, 15, h)
			p.slot(2, 14, start(0, 1, 77)) // a node without a height has no keeper yet
			for _, addr := range []int64{0, 63, 64, 900, 1 << 40, maxAddr} {
				p.faults(nodeKey(2, 3, r), addr, faultForm, api.Key{})
			}
			keeper := start(0, 1, 10)
			if r == 4 {
				keeper = api.Key{}
			}
			for _, at := range []int64{0, 14 * 64, 16383} {
				p.faults(nodeKey(0, 1, r), 16384+at, faultForm, keeper)
			}
		}
	}
}

// Heights fall from node to node; the root may have any.
func TestFaultFormOfHeights(t *testing.T) {
	for above := int64(1); above <= 8; above++ {
		for below := int64(1); below <= 8; below++ {
			w := world{node(1, above, nodeKey(1, 2, 0)), node(2, below, pageKey(2, 3, 0)), page(3, 0), node(4, 8, nodeKey(0, 1, 0))}
			w[0].Slots[14], w[1].Slots[14], w[3].Slots[14] = start(0, 1, 1), start(0, 1, 2), start(0, 1, 3)
			p := pairOf(t, w)
			p.finds(nodeKey(1, 2, 0), 7, api.Found{Page: pageKey(2, 3, 0), At: 7, Keeper: start(0, 1, 2), Depth: 1})
			if below >= above {
				p.faults(nodeKey(0, 1, 0), 7, faultForm, start(0, 1, 1))
				continue
			}
			p.finds(nodeKey(0, 1, 0), 7, api.Found{Page: pageKey(2, 3, 0), At: 7, Keeper: start(0, 1, 2), Depth: 2})
			if above < 8 {
				p.finds(nodeKey(3, 4, 0), 7, api.Found{Page: pageKey(2, 3, 0), At: 7, Keeper: start(0, 1, 2), Depth: 3})
			} else {
				p.faults(nodeKey(3, 4, 0), 7, faultForm, start(0, 1, 3))
			}
		}
	}
}

// It is the node ahead whose height counts, not the root's.
func TestFaultFormFurtherDown(t *testing.T) {
	for _, heights := range [][]int64{{8, 3, 3}, {8, 3, 4}, {8, 3, 7}, {8, 1, 1}, {5, 4, 2, 2}, {5, 4, 2, 3}, {7, 6, 5, 4, 3, 2, 1, 1}} {
		w, root, addr := ladder(0, down(0, heights...)...)
		for i := range heights {
			w[i].Slots[14] = start(0, 1, int64(i))
		}
		p := pairOf(t, w)
		p.faults(root, addr, faultForm, start(0, 1, int64(len(heights)-2)))
		p.faults(root, addr+63, faultForm, start(0, 1, int64(len(heights)-2)))
	}
}

// Nodes that lead back to one that was gone through.
func TestNodesThatLeadBack(t *testing.T) {
	p := pairOf(t, town())
	self := nodeKey(11, 12, 0)
	for _, at := range []int64{0, 5, 17179869183} {
		p.faults(self, at, faultForm, start(11, 12, -1))
		p.faults(self, 17179869184+at, faultForm, start(11, 12, -1))
		p.faults(by(self, 4), at, faultForm, api.Key{})
		p.faults(self, 2*17179869184+at, faultVoid, start(11, 12, -1))
	}
	root := nodeKey(0, 1, 0)
	p.faults(root, 7*16384, faultForm, start(0, 1, 10))
	p.faults(root, 4*1024+9, faultForm, start(3, 4, 11))
	p.faults(root, 3*1024+9, faultForm, start(3, 4, 11))
	p.faults(nodeKey(2, 3, 0), 5*64, faultForm, api.Key{})
	for h := int64(1); h <= 8; h++ { // two that lead to one another
		a, b := nodeKey(0, 1, 0), nodeKey(1, 1, 0)
		q := pairOf(t, world{node(1, h, b, b), node(1, max(h-1, 1), a, a)})
		for _, addr := range []int64{0, 63, each()[h], each()[h] + 63} {
			q.faults(a, addr, faultForm, api.Key{})
			q.faults(b, addr%each()[max(h-1, 1)], faultForm, api.Key{})
		}
	}
}

func TestFaultCross(t *testing.T) {
	w, root, addr := ladder(0, rung{3, 2, 0, start(0, 1, 5)}, rung{1, 4, 0, api.Key{}})
	w[1].Slots[5] = pageKey(3, 7, 0) // the bytes behind it are another page's
	p := pairOf(t, w)
	for at := range 64 {
		for n := range 65 {
			if at+n <= 64 {
				p.load(root, addr+int64(at), n)
				p.store(root, addr+int64(at), wave(n))
				continue
			}
			p.loadFaults(root, addr+int64(at), n, faultCross, start(0, 1, 5))
			p.storeFaults(root, addr+int64(at), n, faultCross, start(0, 1, 5))
		}
	}
	p.storeFaults(by(root, 4), addr+63, 2, faultCross, api.Key{})
	p.loadFaults(pageKey(2, 3, 0), 1, 64, faultCross, api.Key{})
	p.storeFaults(pageKey(2, 3, 0), 63, 2, faultCross, api.Key{})
}

func TestFaultRight(t *testing.T) {
	w, root, addr := ladder(0, rung{3, 2, 0, start(0, 1, 5)}, rung{1, 4, 1, api.Key{}})
	p := pairOf(t, w)
	for at := range 64 {
		for _, n := range []int{0, 1, 64 - at} {
			p.storeFaults(root, addr+int64(at), n, faultRight, start(0, 1, 5))
			p.load(root, addr+int64(at), n)
		}
	}
	p.storeFaults(by(root, 4), addr, 1, faultRight, api.Key{})
	p.storeFaults(pageKey(2, 3, 1), 63, 1, faultRight, api.Key{})
	p.storeFaults(pageKey(2, 3, 1), 0, 0, faultRight, api.Key{})
	p.store(pageKey(2, 3, 0), 63, "z")
	p.loads(pageKey(2, 3, 1), 63, "z")
}

// Which of two faults is told, where both could be.
func TestWhichOfTwoFaults(t *testing.T) {
	p := pairOf(t, town())
	root, ten := nodeKey(0, 1, 0), start(0, 1, 10)
	p.storeFaults(pageKey(4, 5, 1), 63, 2, faultCross, api.Key{})          // ahead of FaultRight
	p.storeFaults(by(root, 1), 2*16384+1, 64, faultCross, ten)             // the same, on a way
	p.storeFaults(pageKey(4, 5, 1), 64, 2, faultRange, api.Key{})          // ahead of both
	p.storeFaults(by(root, 1), 2*16384+64, 64, faultRange, ten)            // the same, on a way
	p.faults(nodeKey(9, 0, 0), maxAddr, faultForm, api.Key{})              // ahead of FaultRange
	p.faults(nodeKey(10, maxCount, 0), maxAddr, faultForm, api.Key{})      // the same
	p.faults(root, 6*16384+16383, faultForm, ten)                          // the same, on the way
	p.faults(root, 9*16384+16383, faultVoid, ten)                          // no space: ahead of what lies in it
	p.faults(nodeKey(1, 2, 0), 7*1024+1023, faultVoid, start(3, 4, 11))    // the same, of a key that does not count
	p.faults(nodeKey(1, 2, 0), 3*1024+15*64, faultForm, start(3, 4, 11))   // a height that is not below: ahead of FaultRange
	p.storeFaults(nodeKey(0, 1, 2), 0, 64, faultRight, start(3, 4, 11))    // all of the page: not FaultCross
	p.storeFaults(nodeKey(0, 1, 2), 1, 64, faultCross, start(3, 4, 11))    // and one more
	p.storeFaults(nodeKey(0, 1, 3), 3*64, 1, faultVoid, start(3, 4, 11))   // ahead of FaultRight
	p.storeFaults(nodeKey(0, 1, 3), 4*1024, 1, faultForm, start(3, 4, 11)) // the same
}

// The keeper

func TestKeepers(t *testing.T) {
	first, second, third := start(0, 1, 1), start(1, 2, 2), start(2, 3, 3)
	stale, dead := start(0, 2, 4), start(3, 4, 4) // of another Count; of a page
	other := []api.Key{{}, stale, dead, nodeKey(0, 1, 0), key(4, 0, 1), key(5, 0, 1), resume(0, 1, 3), pageKey(3, 4, 0), number(6), bare(8), bare(9), bare(10)}
	cases := []struct{ a, b, c, want api.Key }{
		{first, second, third, third}, {first, second, api.Key{}, second}, {first, api.Key{}, api.Key{}, first}, {api.Key{}, api.Key{}, api.Key{}, api.Key{}},
		{api.Key{}, second, api.Key{}, second}, {api.Key{}, api.Key{}, third, third}, {first, api.Key{}, third, third}, {first, first, first, first}, {third, second, first, first},
	}
	for _, k := range other {
		cases = append(cases, []struct{ a, b, c, want api.Key }{{k, k, k, api.Key{}}, {first, k, k, first}, {first, second, k, second}, {k, second, k, second}, {k, k, third, third}, {first, k, third, third}}...)
	}
	for _, x := range cases {
		w, root, addr := ladder(0, rung{6, 1, 0, x.a}, rung{3, 0, 0, x.b}, rung{2, 13, 0, x.c})
		p := pairOf(t, w)
		p.finds(root, addr+3, api.Found{Page: pageKey(3, 4, 0), At: 3, Keeper: x.want, Depth: 3})
		p.loadFaults(root, addr+3, 64, faultCross, x.want)
		p.storeFaults(root, addr+63, 2, faultCross, x.want)
		p.faults(root, addr+64, faultRange, x.want)
		p.faults(root, addr-1, faultVoid, x.want)
		p.slot(2, 13, pageKey(3, 4, 1))
		p.storeFaults(root, addr, 1, faultRight, x.want)
		p.slot(2, 13, nodeKey(0, 1, 0))
		p.faults(root, addr, faultForm, x.want)
	}
}

// A keeper is told as it is: Oid, Count and badge, whatever the badge is.
func TestKeepersBadges(t *testing.T) {
	for _, badge := range []int64{0, 1, -1, math.MaxInt64, math.MinInt64} {
		w, root, addr := ladder(0, rung{1, 13, 0, start(0, 1, badge)})
		p := pairOf(t, w)
		p.finds(root, addr, api.Found{Page: pageKey(1, 2, 0), Keeper: start(0, 1, badge), Depth: 1})
		p.faults(root, 0, faultVoid, start(0, 1, badge))
	}
}

// A keeper that counts no more is none; one that counts again is one.
func TestKeepersCountByTheStore(t *testing.T) {
	w, root, addr := ladder(0, rung{1, 0, 0, start(3, 9, 8)})
	p := pairOf(t, w)
	p.finds(root, addr, api.Found{Page: pageKey(1, 2, 0), Keeper: start(3, 9, 8), Depth: 1})
	was := p.want[3]
	for _, o := range []api.Object{node(10, 1), {Kind: 0, Count: 9}, {Kind: 2, Count: 9}, {Kind: 3, Count: 9}} {
		p.set(3, o)
		p.finds(root, addr, api.Found{Page: pageKey(1, 2, 0), Depth: 1})
		p.faults(root, addr+64, faultVoid, api.Key{})
		p.set(3, was)
		p.faults(root, addr+64, faultVoid, start(3, 9, 8))
	}
}

// The rights that are gathered

// Each of three keys of nodes and the page's key has all rights that it may; each of the nodes has a keeper.
func TestRightsOnTheWay(t *testing.T) {
	keepers := []api.Key{start(0, 1, 1), start(0, 1, 2), start(0, 1, 3)}
	for n := range 8 * 8 * 8 * 2 {
		r := []api.Rights{api.Rights(n % 8), api.Rights(n / 8 % 8), api.Rights(n / 64 % 8)}
		last := api.Rights(n / 512)
		w, root, addr := ladder(last, rung{4, 2, r[0], keepers[0]}, rung{3, 5, r[1], keepers[1]}, rung{1, 11, r[2], keepers[2]})
		keeper, open := api.Key{}, last == 0
		for i := range r {
			if r[i] > 3 {
				break
			}
			keeper = keepers[i]
		}
		for _, right := range r {
			open = open && (right == 0 || right == 4)
		}
		want := api.Found{Page: pageKey(3, 4, 1), At: 20, Keeper: keeper, Depth: 3}
		p := pairOf(t, w)
		if open {
			want.Page.Rights = 0
			p.finds(root, addr+20, want)
			p.store(root, addr+20, "open")
			p.loads(pageKey(3, 4, 0), 20, "open")
			continue
		}
		p.finds(root, addr+20, want)
		p.load(root, addr+20, 9)
		p.storeFaults(root, addr+20, 4, faultRight, keeper)
	}
}

// NoCall hides keepers from where it is gathered on, and leaves the one that was come to ahead of it; the other rights hide none.
func TestNoCall(t *testing.T) {
	a, b := start(0, 1, 1), start(0, 1, 2)
	for _, x := range []struct {
		root, on api.Rights
		want     api.Key
	}{
		{0, 0, b}, {0, 4, a}, {4, 0, api.Key{}}, {4, 4, api.Key{}}, {3, 3, b}, {3, 7, a}, {7, 3, api.Key{}},
		{2, 4, a}, {1, 4, a}, {6, 0, api.Key{}}, {5, 2, api.Key{}}, {1, 1, b}, {2, 0, b}, {0, 2, b},
	} {
		w, root, addr := ladder(0, rung{2, 1, x.root, a}, rung{1, 1, x.on, b})
		p := pairOf(t, w)
		x0, f, e := spaces.Walk(p.s, root, addr)
		if x0.Keeper != x.want || f != (api.Fault{}) || e != ok {
			t.Errorf("rights %d, %d: %v, %v, %v, want the keeper %v", x.root, x.on, x0, f, e, x.want)
		}
		p.faults(root, addr-1, faultVoid, x.want)
		p.faults(root, addr+14*64, faultRange, x.want)
	}
}

// What a weak key leads to is weak further down, too: the page's key is read-only, and the slots 14 and 15 are looked at all the same.
func TestByAWeakKey(t *testing.T) {
	keeper := start(0, 1, 4)
	for _, deep := range []int{1, 2, 5, 8} {
		for weak := range deep {
			l := falling(deep, 3)
			l[weak].rights, l[deep-1].keeper = 2, keeper
			w, root, addr := ladder(0, l...)
			p := pairOf(t, w)
			p.finds(root, addr+1, api.Found{Page: pageKey(deep, int64(deep+1), 1), At: 1, Keeper: keeper, Depth: deep})
			p.storeFaults(root, addr+1, 1, faultRight, keeper)
		}
	}
}

// The slots 0 to 13 are got as layer 9 gets them: what a weak key has void there leads nowhere, and nowhere else does it by any key.
func TestWhatIsGotOnTheWay(t *testing.T) {
	for _, r := range []api.Rights{0, 1, 2, 3, 4} {
		p := pairOf(t, town())
		for _, k := range town().roots() {
			p.slot(1, 9, k)
			for _, at := range []int64{0, 63, 64, 128, 1023} {
				p.walk(nodeKey(1, 2, r), 9*1024+at)
				p.walk(nodeKey(0, 1, r), 9*1024+at)
			}
		}
	}
}

// P11.2: Load and Store

func TestLoadAndStoreOnAWay(t *testing.T) {
	w, root, addr := ladder(0, rung{7, 6, 4, api.Key{}}, rung{2, 5, 0, api.Key{}}, rung{1, 4, 0, api.Key{}})
	for at := range 64 {
		p := pairOf(t, w)
		for _, n := range numbers() {
			p.load(root, addr+int64(at), n)
			p.store(root, addr+int64(at), wave(n + 1)[1:])
			p.load(root, addr+int64(at), n)
		}
		p.loads(root, addr, string(p.want[3].Bytes[:]))
	}
}

// Bytes are bytes, whether they are texts or not.
func TestAllBytes(t *testing.T) {
	w, root, addr := ladder(0, rung{1, 3, 0, api.Key{}})
	p := pairOf(t, w)
	for n := range 256 {
		p.store(root, addr+int64(n%64), string([]byte{byte(n)}))
		p.loads(root, addr+int64(n%64), string([]byte{byte(n)}))
	}
	for _, b := range []string{"\xff\xfe\xc0\x80", "\x00\x00", "äöü€", "\xed\xa0\x80", "\r\n\t\x7f"} {
		p.store(root, addr+5, b)
		p.loads(root, addr+5, b)
	}
}

// What was loaded stays as it was, whatever becomes of the page.
func TestWhatWasLoadedGoesOnApart(t *testing.T) {
	p := pairOf(t, town())
	b, _, _ := spaces.Load(p.s, nodeKey(2, 3, 0), 0, 64)
	p.store(nodeKey(2, 3, 0), 0, wave(64))
	p.set(4, api.Object{})
	if want := rising(33); b != string(want[:]) {
		t.Errorf("what Load answered goes with the page: %q", b)
	}
}

// Nothing at all is no access to a page that is not there, nor to one that may not be written.
func TestNoBytes(t *testing.T) {
	p := pairOf(t, town())
	p.loads(pageKey(4, 5, 0), 63, "")
	p.store(pageKey(4, 5, 0), 63, "")
	p.store(pageKey(4, 5, 0), 0, "")
	p.loadFaults(pageKey(4, 5, 0), 64, 0, faultRange, api.Key{})
	p.storeFaults(pageKey(4, 5, 0), 64, 0, faultRange, api.Key{})
	p.storeFaults(pageKey(4, 5, 1), 0, 0, faultRight, api.Key{})
	p.loadFaults(api.Key{}, 0, 0, faultVoid, api.Key{})
}

// P11.3

// ways are roots and addresses by which the town's page 4 is come to, from its byte 0 on; true are those by which it may be written.
func ways() []struct {
	root api.Key
	addr int64
	open bool
} {
	return []struct {
		root api.Key
		addr int64
		open bool
	}{
		{pageKey(4, 5, 0), 0, true}, {pageKey(4, 5, 1), 0, false},
		{nodeKey(2, 3, 0), 0, true}, {nodeKey(2, 3, 4), 0, true}, {nodeKey(2, 3, 1), 0, false}, {nodeKey(2, 3, 2), 0, false},
		{nodeKey(1, 2, 0), 0, true}, {nodeKey(1, 2, 5), 0, false}, {nodeKey(1, 2, 6), 0, false},
		{nodeKey(0, 1, 0), 0, true}, {nodeKey(0, 1, 0), 16384, true}, {nodeKey(0, 1, 0), 2 * 16384, true}, {nodeKey(0, 1, 0), 3 * 16384, false},
		{nodeKey(0, 1, 0), 4 * 16384, false}, {nodeKey(0, 1, 0), 5 * 16384, true}, {nodeKey(0, 1, 4), 5 * 16384, true}, {nodeKey(0, 1, 3), 2 * 16384, false},
	}
}

func TestWhatIsStoredIsLoadedByEachRoot(t *testing.T) {
	p := pairOf(t, town())
	for i, by := range ways() {
		for _, at := range []int64{0, 1, 40, 63} {
			b := wave(100)[i : i+int(min(64-at, 9))]
			if by.open {
				p.store(by.root, by.addr+at, b)
			} else {
				f, e := spaces.Store(p.s, by.root, by.addr+at, b)
				if f.Kind != faultRight || e != ok {
					t.Fatalf("%v: %v, %v, want FaultRight", by, f, e)
				}
			}
			for _, other := range ways() {
				if by.open {
					p.loads(other.root, other.addr+at, b)
				}
				p.loads(other.root, other.addr, string(p.want[4].Bytes[:]))
			}
		}
	}
}

// Pages beside it, in the same space, keep their bytes.
func TestNoOtherPageIsChanged(t *testing.T) {
	w, k := slotsOf(1)
	p := pairOf(t, w)
	for slot := range 14 {
		p.store(k, int64(slot*64), wave(64))
		p.store(k, int64(slot*64+63), "x")
		for other := range 14 {
			p.loads(k, int64(other*64), string(p.want[other+1].Bytes[:]))
		}
		p.storeFaults(k, int64(slot*64+63), 2, faultCross, api.Key{})
	}
}

// One page in two slots of a node is written by the one and loaded by the other.
func TestOnePageInTwoSlots(t *testing.T) {
	p := pairOf(t, world{page(1, 0), node(2, 1, pageKey(0, 1, 0), pageKey(0, 1, 1), api.Key{}, pageKey(0, 1, 0))})
	k := nodeKey(1, 2, 0)
	p.store(k, 0, "first")
	p.loads(k, 64, "first")
	p.store(k, 3*64+2, "last")
	p.loads(k, 64, "filast")
	p.storeFaults(k, 64, 1, faultRight, api.Key{})
}

// P11.4

// A right at any one place of a way of any length leaves nothing to be written by it, whatever the others are.
func TestNothingIsWrittenBehindARight(t *testing.T) {
	for deep := 1; deep <= 8; deep++ {
		for where := range deep + 1 {
			for _, r := range []api.Rights{1, 2, 3, 5, 6, 7} {
				for _, others := range []api.Rights{0, 4} {
					l, last := falling(deep, 1+where), api.Rights(0)
					for i := range l {
						l[i].rights = others
					}
					if where < deep {
						l[where].rights = r
					} else {
						last = 1
					}
					w, root, addr := ladder(last, l...)
					p := pairOf(t, w)
					for _, at := range []int{0, 63} {
						p.storeFaults(root, addr+int64(at), 1, faultRight, api.Key{})
						p.storeFaults(root, addr+int64(at), 0, faultRight, api.Key{})
						p.loads(root, addr+int64(at), string(p.want[deep].Bytes[at:at+1]))
					}
					p.storeFaults(root, addr, 64, faultRight, api.Key{})
				}
			}
		}
	}
}

func TestNothingIsFormedBehindARight(t *testing.T) {
	p := pairOf(t, town())
	for _, r := range []api.Rights{1, 2, 3, 5, 6, 7} {
		for h := 1; h <= 8; h++ {
			if e := spaces.Form(p.s, nodeKey(0, 1, r), h); e != errRight {
				t.Fatalf("Form by the rights %d: %v", r, e)
			}
			p.holds("Form behind a right")
		}
	}
}

// What is there counts

// A walk goes by the store as it is: nothing of an earlier walk is kept.
func TestWalksGoByTheStore(t *testing.T) {
	w, root, addr := ladder(0, falling(3, 2)...)
	p := pairOf(t, w)
	want := api.Found{Page: pageKey(3, 4, 0), At: 1, Depth: 3}
	p.finds(root, addr+1, want)
	was := p.want[3]
	for _, o := range []api.Object{page(5, 1), {Kind: 0, Count: 4}, {Kind: 3, Count: 4}, node(4, 1)} {
		p.set(3, o)
		p.faults(root, addr+1, faultVoid, api.Key{})
		p.set(3, was)
		p.finds(root, addr+1, want)
	}
	was = p.want[1]
	for _, o := range []api.Object{node(3, 2), page(2, 1), {Kind: 0, Count: 2}} {
		p.set(1, o)
		p.faults(root, addr+1, faultVoid, api.Key{})
		p.set(1, was)
		p.finds(root, addr+1, want)
	}
	p.form(nodeKey(1, 2, 0), 3)
	p.faults(root, addr+1, faultForm, api.Key{})
	p.form(nodeKey(1, 2, 0), 2)
	p.finds(root, addr+1, want)
}

// Each of two stores is asked by itself.
func TestStoresGoOnApart(t *testing.T) {
	a, b := pairOf(t, town()), pairOf(t, town())
	c := &pair{t, a.s.Copy(), town()}
	a.store(nodeKey(2, 3, 0), 0, "a")
	a.form(nodeKey(9, 0, 0), 4)
	b.store(nodeKey(2, 3, 0), 1, "b")
	a.holds("another store was changed")
	b.holds("another store was changed")
	c.holds("a copy was changed")
}

// The least store there is, and the greatest one.
func TestTheLeastAndTheGreatestStore(t *testing.T) {
	p := pairOf(t, world{page(0, 7)})
	p.store(pageKey(0, 0, 0), 0, wave(64))
	p.refused(pageKey(1, 0, 0), 0, 1, errArg)
	p.form(nodeKey(0, 0, 0), 1)
	w := make(world, 64)
	for oid := range 32 {
		w[oid] = node(maxCount-int64(oid), 1, pageKey(63-oid, int64(oid), 0))
		w[63-oid] = page(int64(oid), byte(oid*8))
	}
	q := pairOf(t, w)
	for oid := range 32 {
		k := nodeKey(oid, maxCount-int64(oid), 0)
		q.finds(k, 63, api.Found{Page: pageKey(63-oid, int64(oid), 0), At: 63, Depth: 1})
		q.store(k, int64(oid), wave(20))
		q.form(k, 1+oid%8)
	}
}

// All roots, addresses and numbers, those that may be and those that may not: each answer as the document has it, and the store behind it.
func TestAllThatMayBeAsked(t *testing.T) {
	p := pairOf(t, town())
	for _, k := range slices.Concat(town().roots(), wrongKeys(), naming(12, 0, 0), naming(63, maxCount, 1)) {
		for i, addr := range slices.Concat(addresses(), wrongAddresses()) {
			p.walk(k, addr)
			p.load(k, addr, pick(row(uint32(i)), slices.Concat(numbers(), wrongNumbers())))
			p.store(k, addr, wave(i%67))
		}
	}
}

// Many calls in no order

// row is numbers that are the same each time.
func row(from uint32) func(n int) int {
	return func(n int) int {
		from = from*1664525 + 1013904223
		return int(from>>8) % n
	}
}

func pick[T any](next func(n int) int, l []T) T { return l[next(len(l))] }

// someKey is of any kind, of an object that is there or just not, but mostly one of a node or a page that counts.
func (w world) someKey(next func(n int) int) api.Key {
	oid := next(len(w))
	o := w[oid]
	switch next(24) {
	case 0:
		return pick(next, ofNothing())
	case 1:
		return pick(next, naming(oid, o.Count, o.Calls))
	case 2:
		return nodeKey(oid, int64(next(3)), 0)
	}
	if o.Kind == 2 {
		return pageKey(oid, o.Count, pick(next, []api.Rights{0, 0, 0, 1}))
	}
	return nodeKey(oid, o.Count, pick(next, []api.Rights{0, 0, 0, 0, 0, 1, 2, 4, 3, 5, 6, 7}))
}

// someNode is a node whose slots lead anywhere, mostly of a height; few have neither void slots nor such as lead nowhere.
func (w world) someNode(next func(n int) int, height int64) api.Object {
	o := node(int64(next(3)), height)
	for slot := range 14 {
		if next(5) > 0 {
			o.Slots[slot] = w.someKey(next)
		}
	}
	if next(3) > 0 {
		keeper := next(len(w))
		o.Slots[14] = start(keeper, w[keeper].Count, int64(next(100)))
	}
	if next(12) == 0 {
		o.Slots[15] = pick(next, []api.Key{{}, number(0), number(9), bare(8), number(-1)})
	}
	return o
}

// someWorld has as many nodes, of falling heights, as pages.
func someWorld(next func(n int) int, n int) world {
	w := make(world, n)
	for oid := range w {
		w[oid] = page(int64(next(3)), byte(oid*20))
		if oid%3 < 2 && n > 1 {
			w[oid] = node(int64(next(3)), 1)
		}
	}
	for oid := range w {
		if w[oid].Kind == 1 {
			count := w[oid].Count
			w[oid] = w.someNode(next, int64(8-oid*8/n))
			w[oid].Count = count
		}
	}
	return w
}

// aim tells an address that leads as far down as may be from a root; some go astray.
func (w world) aim(next func(n int) int, k api.Key) int64 {
	addr, ahead, deep := int64(0), int64(9), next(2)*30
	for w.counts(k) && k.Kind == 2 {
		h := w[k.Oid].Slots[15].Value
		if w[k.Oid].Slots[15].Kind != 1 || h < 1 || h >= ahead {
			break
		}
		slot, all := 0, next(20) == 0
		for i := range 50 {
			slot = next(14)
			to := w.got(k, slot)
			if all || to.Kind == 3 && i >= deep || to.Kind == 2 && w[to.Oid].Slots[15].Value == h-1 || to.Kind == 2 && i > 15 && w[to.Oid].Slots[15].Value < h {
				break
			}
		}
		if next(30) == 0 {
			slot = 14 + next(2)
		}
		addr += int64(slot) * each()[h]
		if slot > 13 {
			break
		}
		k, ahead = w.got(k, slot), h
	}
	return addr + int64(next(66))
}

func (p *pair) step(next func(n int) int, seen map[api.FaultKind]int, depths map[int]int) {
	k := p.want.someKey(next)
	if next(40) == 0 {
		k = pick(next, wrongKeys())
	}
	addr, n := p.want.aim(next, k), pick(next, []int{0, 1, 1, 2, 3, 7, 30, 64, 65})
	switch next(30) {
	case 0:
		addr = pick(next, slices.Concat(addresses(), wrongAddresses()))
	case 1:
		p.form(k, max(8-k.Oid*8/len(p.want), 1)*next(2)+next(5)-2)
	case 2:
		if oid := next(len(p.want)); p.want[oid].Kind == 1 {
			p.slot(oid, next(16), p.want.someKey(next))
		}
	case 3:
		if oid := next(len(p.want)); p.want[oid].Kind == 1 {
			o := p.want.someNode(next, int64(8-oid*8/len(p.want)))
			if next(8) > 0 {
				o.Count = p.want[oid].Count
			}
			p.set(oid, o)
		}
	}
	if _, f, e := p.want.place(k, addr, min(n, 64), true); e == ok {
		seen[f.Kind]++
	}
	if x, f, e := p.want.place(k, addr, 0, false); e == ok && f.Kind == 0 {
		depths[x.Depth]++
	}
	p.walk(k, addr)
	p.load(k, addr, n)
	p.store(k, addr, wave(n + next(3))[:n])
}

func TestManyCalls(t *testing.T) {
	seen, depths := make(map[api.FaultKind]int), make(map[int]int)
	for i, n := range []int{1, 2, 3, 5, 8, 12, 16, 24, 24, 24, 32, 40, 64} {
		next := row(uint32(100 + i))
		p := pairOf(t, someWorld(next, n))
		for range 5000 {
			p.step(next, seen, depths)
		}
	}
	for kind := range api.FaultKind(7) {
		if kind != faultDepth && seen[kind] < 100 { // FaultDepth has a test of its own
			t.Errorf("the fault %d was come to %d times", kind, seen[kind])
		}
	}
	for depth := range 6 {
		if depths[depth] < 20 {
			t.Errorf("pages %d deep were come to %d times", depth, depths[depth])
		}
	}
}
