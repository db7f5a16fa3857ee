package procs_test

import (
	"fmt"
	"math"
	"slices"
	"strings"
	"testing"

	"chatelaine/api"
	"chatelaine/objects"
	"chatelaine/procs"
)

// What the document says of processes stands here once more, in plain words and numbers of its own.

const (
	maxCount = 4294967295
	maxData  = 32

	ok       = api.Errno(0)
	errNil   = api.Errno(1)
	errArg   = api.Errno(2)
	errProc  = api.Errno(230)
	errGone  = api.Errno(231)
	errBusy  = api.Errno(232)
	errCalls = api.Errno(233)

	available = api.ProcState(0)
	runs      = api.ProcState(1)
	waits     = api.ProcState(2)

	calls   = api.Mode(1)
	sends   = api.Mode(2)
	returns = api.Mode(3)

	free    = api.ObjKind(0)
	aNode   = api.ObjKind(1)
	aPage   = api.ObjKind(2)
	retired = api.ObjKind(3)
)

// world is what a store should have; one of no objects stands for no store.
type world []api.Object

// mayBe tells whether a key may be.
func mayBe(k api.Key) bool {
	if k.Kind < 0 || k.Kind > 10 {
		return false
	}
	bare := api.Key{Kind: k.Kind}
	object := k.Oid >= 0 && k.Oid <= 63 && k.Count >= 0 && k.Count <= maxCount
	switch k.Kind {
	case 0, 8, 9, 10:
		return k == bare
	case 1:
		bare.Value = k.Value
		return k == bare
	}
	bare.Oid, bare.Count = k.Oid, k.Count
	switch k.Kind {
	case 2:
		bare.Rights = k.Rights & 7
	case 3:
		bare.Rights = k.Rights & 1
	case 6:
		bare.Value = k.Value
	case 7:
		bare.Call = k.Call
		object = object && k.Call >= 0 && k.Call <= maxCount
	}
	return object && k == bare
}

func isOfObject(k api.Key) bool { return k.Kind >= 2 && k.Kind <= 7 }

// mayHave tells whether a key may be, and names nothing that the store has not.
func (w world) mayHave(k api.Key) bool {
	return mayBe(k) && (!isOfObject(k) || k.Oid < len(w))
}

// counts tells whether a key counts.
func (w world) counts(k api.Key) bool {
	if !w.mayHave(k) {
		return false
	}
	if !isOfObject(k) {
		return true
	}
	o := w[k.Oid]
	if o.Count != k.Count {
		return false
	}
	if k.Kind == 3 {
		return o.Kind == aPage
	}
	return o.Kind == aNode && (k.Kind != 7 || o.Calls == k.Call)
}

// asItCounts tells a key that does not count as the void key.
func (w world) asItCounts(k api.Key) api.Key {
	if w.counts(k) {
		return k
	}
	return api.Key{}
}

// state tells a process's state, -1 where there is none.
func (w world) state(oid int) api.ProcState {
	if oid < 0 || oid >= len(w) || w[oid].Kind != aNode {
		return -1
	}
	switch w[oid].Slots[2] {
	case number(0):
		return available
	case number(1):
		return runs
	case number(2):
		return waits
	}
	return -1
}

func (w world) mayHand(m api.Message) bool {
	return len(m.Data) <= maxData && w.mayHave(m.Keys[0]) && w.mayHave(m.Keys[1]) && w.mayHave(m.Keys[2])
}

// handed is a process that was handed a message over, as the world is now.
func (w world) handed(o api.Object, m api.Message, answer api.Key) api.Object {
	for i, k := range m.Keys {
		o.Slots[12+i] = w.asItCounts(k)
	}
	o.Slots[2], o.Slots[3], o.Slots[15] = number(1), number(m.Code), answer
	o.Bytes = bytesOf(m.Data)
	return o
}

// bytesOf are the bytes of a process that was told a text last.
func bytesOf(data string) (b [64]byte) {
	b[0] = byte(len(data))
	for i := range len(data) {
		b[i+1] = data[i]
	}
	return b
}

// Calls

// which of the six a call is.
const (
	asksState = iota
	invokes
	answers
	asksTold
	asksRunning
	becomes
)

// call is one of the six, with what it takes beside the store.
type call struct {
	which int
	oid   int
	key   api.Key
	mode  api.Mode
	m     api.Message
	st    api.ProcState
}

func invoke(oid int, k api.Key, mode api.Mode, m api.Message) call {
	return call{which: invokes, oid: oid, key: k, mode: mode, m: m}
}

func answer(oid int, m api.Message) call { return call{which: answers, oid: oid, m: m} }

func ask(oid int) call { return call{which: asksTold, oid: oid} }

func state(oid int) call { return call{which: asksState, oid: oid} }

func running() call { return call{which: asksRunning} }

func become(oid int, st api.ProcState) call { return call{which: becomes, oid: oid, st: st} }

// each are all six, with these arguments.
func each(oid int, k api.Key, mode api.Mode, m api.Message, st api.ProcState) (l []call) {
	for which := range 6 {
		l = append(l, call{which, oid, k, mode, m, st})
	}
	return l
}

// told is what a call answers; what it does not answer is zero.
type told struct {
	state api.ProcState
	is    bool
	m     api.Message
	oids  string // of all that run
	e     api.Errno
}

func oidsOf(l ...int) string { return strings.Trim(fmt.Sprint(l), "[]") }

// of is what the program answers.
func (c call) of(s *objects.Store) (x told) {
	switch c.which {
	case asksState:
		x.state, x.is = procs.State(s, c.oid)
	case invokes:
		x.e = procs.Invoke(s, c.oid, c.key, c.mode, c.m)
	case answers:
		x.e = procs.Answer(s, c.oid, c.m)
	case asksTold:
		x.m, x.e = procs.Told(s, c.oid)
	case asksRunning:
		x.oids = oidsOf(procs.Running(s)...)
	case becomes:
		x.e = procs.Become(s, c.oid, c.st)
	}
	return x
}

// by is what the document answers; the world is then as it should be behind the call.
func (c call) by(w world) told {
	switch c.which {
	case asksState:
		if st := w.state(c.oid); st >= 0 {
			return told{state: st, is: true}
		}
		return told{}
	case asksRunning:
		return told{oids: oidsOf(w.running()...)}
	}
	if len(w) == 0 {
		return told{e: errNil}
	}
	switch c.which {
	case invokes:
		return told{e: w.invoke(c)}
	case answers:
		return told{e: w.answer(c)}
	case asksTold:
		return w.told(c.oid)
	}
	return told{e: w.become(c)}
}

func (w world) running() (l []int) {
	for oid := range w {
		if w.state(oid) == runs {
			l = append(l, oid)
		}
	}
	return l
}

func (w world) answer(c call) api.Errno {
	if !w.mayHand(c.m) {
		return errArg
	}
	if w.state(c.oid) != runs {
		return errProc
	}
	w[c.oid] = w.handed(w[c.oid], c.m, api.Key{})
	return ok
}

func (w world) told(oid int) told {
	if w.state(oid) < 0 {
		return told{e: errProc}
	}
	var m api.Message
	o := w[oid]
	if o.Slots[3].Kind == 1 {
		m.Code = o.Slots[3].Value
	}
	if o.Bytes[0] <= maxData {
		m.Data = string(o.Bytes[1:][:o.Bytes[0]])
	}
	m.Keys = [3]api.Key{w.asItCounts(o.Slots[12]), w.asItCounts(o.Slots[13]), w.asItCounts(o.Slots[14])}
	return told{m: m}
}

func (w world) become(c call) api.Errno {
	if c.oid < 0 || c.oid >= len(w) || w[c.oid].Kind != aNode {
		return errProc
	}
	if c.st != available && c.st != runs && c.st != waits {
		return errArg
	}
	w[c.oid].Slots[2] = number(int64(c.st))
	return ok
}

// refused tells what refuses an invocation, ok if nothing does.
func (w world) refused(c call) api.Errno {
	if c.mode != calls && c.mode != sends && c.mode != returns {
		return errArg
	}
	if !w.mayHave(c.key) || !w.mayHand(c.m) {
		return errArg
	}
	if w.state(c.oid) != runs {
		return errProc
	}
	if c.key.Kind != 6 && c.key.Kind != 7 || !w.counts(c.key) || w.state(c.key.Oid) < 0 {
		return errGone
	}
	now := w.state(c.key.Oid)
	itself := c.mode == returns && c.key.Oid == c.oid
	if c.key.Kind == 6 && now != available && !itself || c.key.Kind == 7 && now != waits {
		return errBusy
	}
	if c.key.Kind == 7 && w[c.key.Oid].Calls == maxCount || c.mode == calls && w[c.oid].Calls == maxCount {
		return errCalls
	}
	return ok
}

func (w world) invoke(c call) api.Errno {
	if e := w.refused(c); e != ok {
		return e
	}
	var key api.Key
	if c.mode == calls {
		key = resume(c.oid, w[c.oid].Count, w[c.oid].Calls)
	}
	o := w.handed(w[c.key.Oid], c.m, key) // its message is as it is ahead of the Calls
	if c.key.Kind == 7 {
		o.Calls++
	}
	switch c.mode {
	case calls:
		w[c.oid].Slots[2] = number(2)
	case returns:
		w[c.oid].Slots[2] = number(0)
	}
	w[c.key.Oid] = o
	return ok
}

// Keys to try

func key(kind api.KeyKind, oid int, count int64) api.Key {
	return api.Key{Kind: kind, Oid: oid, Count: count}
}

func bare(kind api.KeyKind) api.Key { return api.Key{Kind: kind} }

func number(n int64) api.Key { return api.Key{Kind: 1, Value: n} }

func nodeKey(oid int, count int64) api.Key { return key(2, oid, count) }

func pageKey(oid int, count int64) api.Key { return key(3, oid, count) }

func start(oid int, count, badge int64) api.Key {
	return api.Key{Kind: 6, Oid: oid, Count: count, Value: badge}
}

func resume(oid int, count, call int64) api.Key {
	return api.Key{Kind: 7, Oid: oid, Count: count, Call: call}
}

// with is a key with Rights.
func with(k api.Key, r api.Rights) api.Key {
	k.Rights = r
	return k
}

// naming are keys of each kind that names an object, of that Oid and Count; resume keys with that Call.
func naming(oid int, count, call int64) []api.Key {
	l := []api.Key{
		pageKey(oid, count), with(pageKey(oid, count), 1), key(4, oid, count), key(5, oid, count), start(oid, count, 0), start(oid, count, -9), resume(oid, count, call),
	}
	for r := range api.Rights(8) {
		l = append(l, with(nodeKey(oid, count), r))
	}
	return l
}

// ofNothing are keys of no object.
func ofNothing() []api.Key {
	return []api.Key{{}, number(0), number(1), number(2), number(6), number(-7), number(math.MaxInt64), number(math.MinInt64), bare(8), bare(9), bare(10)}
}

// wrongKeys are keys that may not be, in whatever store; many of them are one that leads on in the town but for one part.
func wrongKeys() []api.Key {
	return []api.Key{
		bare(-1), bare(-6), bare(-7), bare(11), bare(256), bare(math.MinInt), bare(math.MaxInt), key(-6, 1, 5), key(11, 1, 5), key(256+6, 1, 5), key(1<<32+6, 1, 5), key(1<<32+7, 15, 0),
		{Oid: 1}, {Count: 5}, {Call: 1}, {Rights: 1}, {Value: 1}, {Kind: 1, Oid: 1}, {Kind: 1, Count: 5}, {Kind: 8, Oid: 1}, {Kind: 9, Value: 1}, {Kind: 10, Rights: 2},
		start(-1, 5, 0), start(64, 5, 0), start(65, 5, 0), start(257, 5, 0), start(1<<32+1, 5, 0), start(math.MaxInt, 5, 0), start(math.MinInt, 5, 0),
		start(1, -5, 0), start(1, -1, 0), start(5, maxCount+1, 0), start(1, maxCount+6, 0), start(1, math.MaxInt64, 0), start(1, math.MinInt64, 0),
		with(start(1, 5, 0), 1), with(start(1, 5, 0), 4), with(start(1, 5, 0), -1), with(start(1, 5, 0), 8), {Kind: 6, Oid: 1, Count: 5, Call: 1}, {Kind: 6, Oid: 1, Count: 5, Call: -1},
		resume(-1, 4, 7), resume(64, 4, 7), resume(258, 4, 7), resume(2, -4, 7), resume(2, maxCount+5, 7), resume(2, 4, -7), resume(2, 4, -1), resume(2, 4, maxCount+1), resume(2, 4, maxCount+8),
		resume(2, 4, math.MaxInt64), resume(2, 4, math.MinInt64), resume(math.MinInt, 4, 7), resume(math.MaxInt, 4, 7), with(resume(2, 4, 7), 1), {Kind: 7, Oid: 2, Count: 4, Call: 7, Value: 1},
		with(nodeKey(1, 5), 8), with(nodeKey(1, 5), -1), {Kind: 2, Oid: 1, Count: 5, Value: 1}, nodeKey(64, 5), nodeKey(-1, 5), nodeKey(1, maxCount+1),
		with(pageKey(8, 6), 2), with(pageKey(8, 6), 4), pageKey(64, 6), pageKey(-1, 6), key(4, 64, 1), with(key(4, 1, 5), 1), key(5, -1, 0), {Kind: 5, Oid: 1, Count: 5, Value: 3},
	}
}

// beyond are keys that may be, of objects that a store of n has not.
func beyond(n int) (l []api.Key) {
	for _, oid := range []int{n, n + 1, 63} {
		l = slices.Concat(l, naming(oid, 0, 0), naming(oid, 5, 7), naming(oid, maxCount, maxCount))
	}
	return l
}

func wrongModes() []api.Mode {
	return []api.Mode{0, -1, -2, -3, 4, 5, 6, 255, 256, 257, 258, 259, 1<<32 + 1, 1<<32 + 2, 1<<32 + 3, -1<<32 + 1, math.MaxInt, math.MinInt, math.MinInt + 1, math.MinInt + 3}
}

func wrongStates() []api.ProcState {
	return []api.ProcState{-1, -2, 3, 4, 255, 256, 257, 258, 1 << 32, 1<<32 + 1, 1<<32 + 2, -1 << 32, math.MaxInt, math.MinInt, math.MinInt + 1, math.MinInt + 2}
}

// wrongOids are those that a store of n has not.
func wrongOids(n int) []int {
	return []int{-1, -2, -n, n, n + 1, 63 + n, 256, 257, 1 << 32, 1<<32 + 1, -1 << 32, math.MaxInt, math.MinInt, math.MinInt + 1}
}

// Messages to try

func message(code int64, data string, l ...api.Key) api.Message {
	m := api.Message{Code: code, Data: data}
	copy(m.Keys[:], l)
	return m
}

// someData are texts of each length up to the greatest, and some of bytes that are no text.
func someData() []string {
	var l []string
	for n := range maxData + 1 {
		l = append(l, rising(n, byte(200+n)))
	}
	return append(l, "hi", "\x00", "\x00\x00\x00", "\xff\xfe\x00\x80", strings.Repeat("\x00", maxData), strings.Repeat("\xff", maxData), "\u00e4\u20ac")
}

func longData() []string {
	var l []string
	for _, n := range []int{33, 34, 35, 63, 64, 65, 255, 256, 257, 256 + 32, 1 << 16, 1<<16 + 1} {
		l = append(l, rising(n, 1), strings.Repeat("\x00", n))
	}
	return l
}

func rising(n int, from byte) string {
	b := make([]byte, n)
	for i := range b {
		b[i] = from + byte(i)
	}
	return string(b)
}

func codes() []int64 {
	return []int64{0, 1, -1, 5, 255, 256, 1 << 31, 1 << 32, -1 << 32, math.MaxInt64, math.MinInt64}
}

// wrongMessages are messages that may not be in a store of n.
func wrongMessages(n int) (l []api.Message) {
	for _, data := range longData() {
		l = append(l, message(1, data), message(2, data, api.Key{}, number(7)))
	}
	for at := range 3 {
		for _, k := range slices.Concat(wrongKeys(), beyond(n)) {
			m := message(3, "hi", number(1), number(2), number(3))
			m.Keys[at] = k
			l = append(l, m)
		}
	}
	return l
}

// Stores to try

// full is an object with something in each part that its kind may have; no process.
func full(kind api.ObjKind, count, calls int64) api.Object {
	o := api.Object{Kind: kind, Count: count, Calls: calls}
	copy(o.Bytes[:], rising(64, byte(3*count+40)))
	if kind == aPage {
		return o
	}
	for slot := range o.Slots {
		o.Slots[slot] = []api.Key{number(int64(slot) - 30), {Kind: 6, Value: int64(slot) - 8}, with(nodeKey(0, count), 7), {Kind: 8}, {Kind: 7, Count: 1, Call: calls}}[slot%5]
	}
	return o
}

// process is a node with something everywhere, and a state.
func process(count, calls int64, st api.ProcState) api.Object {
	o := full(aNode, count, calls)
	o.Slots[2] = number(int64(st))
	return o
}

// bareProcess is one with nothing but its state.
func bareProcess(count, calls int64, st api.ProcState) api.Object {
	return api.Object{Kind: aNode, Count: count, Calls: calls, Slots: [16]api.Key{2: number(int64(st))}}
}

func nodeWith(k api.Key) api.Object {
	o := full(aNode, 1, 1)
	o.Slots[2] = k
	return o
}

func none(kind api.ObjKind, count int64) api.Object { return api.Object{Kind: kind, Count: count} }

// town are objects of all kinds; 0, 3 and 11 run.
func town() world {
	return world{
		0:  process(3, 2, runs),
		1:  process(5, 0, available),
		2:  process(4, 7, waits),
		3:  process(1, maxCount, runs),
		4:  process(2, maxCount, waits),
		5:  process(maxCount, maxCount, available),
		6:  nodeWith(api.Key{}),
		7:  nodeWith(number(3)),
		8:  full(aPage, 6, 0),
		9:  none(free, 2),
		10: none(retired, maxCount),
		11: process(8, maxCount-1, runs),
		12: process(9, maxCount-1, waits),
		13: process(0, 1, available),
		14: nodeWith(start(1, 5, 1)),
		15: process(0, 0, waits),
	}
}

// pair is a store, and beside it what it should have.
type pair struct {
	t    *testing.T
	s    *objects.Store
	want world
	used []api.Key // resume keys
}

func pairOf(t *testing.T, w world) *pair {
	t.Helper()
	s, e := objects.Of(w...)
	if e != ok {
		t.Fatalf("no such store: %v", e)
	}
	return &pair{t: t, s: s, want: slices.Clone(w)}
}

// holds asks that the store has what it should, part by part and byte by byte.
func (p *pair) holds(what any) {
	p.t.Helper()
	if p.s.Size() != len(p.want) {
		p.t.Fatalf("%v: %d objects, want %d", what, p.s.Size(), len(p.want))
	}
	for oid, o := range p.s.All() {
		if o != p.want[oid] {
			p.t.Fatalf("%v: the object %d is %v, want %v", what, oid, o, p.want[oid])
		}
	}
}

// does asks that a call answers as the document does, and that the store is as it should be behind it.
func (p *pair) does(c call) told {
	p.t.Helper()
	was := slices.Clone(p.want)
	want := c.by(p.want)
	x := c.of(p.s)
	if x != want {
		p.t.Fatalf("%v: %v, want %v", c, x, want)
	}
	p.holds(c)
	if c.which == invokes && x.e == ok {
		p.keeps(c, was)
	}
	return x
}

// keeps asks what P13.3 and P13.4 say of an invocation, by the store now and what it was ahead of it.
func (p *pair) keeps(c call, was world) {
	p.t.Helper()
	if c.key.Kind == 7 {
		p.used = append(p.used, c.key)
	}
	more := 0
	if c.mode == sends {
		more = 1
	}
	if now := len(procs.Running(p.s)); now != len(was.running())+more {
		p.t.Fatalf("%v: %d ran, %d run", c, len(was.running()), now)
	}
	for oid, o := range p.s.All() {
		if o != was[oid] && oid != c.oid && oid != c.key.Oid {
			p.t.Fatalf("%v: %d was changed", c, oid)
		}
		if o.Count != was[oid].Count || o.Calls < was[oid].Calls || o.Kind != was[oid].Kind {
			p.t.Fatalf("%v: %d was %v, is %v", c, oid, was[oid], o)
		}
	}
}

// staysUsed asks that no resume key that was used counts.
func (p *pair) staysUsed() {
	p.t.Helper()
	for _, k := range p.used {
		if _, counts := p.s.Named(k); counts || p.s.Prepared(k) != (api.Key{}) {
			p.t.Fatalf("%v counts again", k)
		}
	}
}

// tells asks for just that answer, too.
func (p *pair) tells(c call, want told) {
	p.t.Helper()
	if x := p.does(c); x != want {
		p.t.Fatalf("%v: %v, want %v", c, x, want)
	}
}

func (p *pair) goes(c call) {
	p.t.Helper()
	p.tells(c, told{})
}

// refuses asks for an error, beside which all is zero, and that the store stays.
func (p *pair) refuses(c call, e api.Errno) {
	p.t.Helper()
	was := slices.Clone(p.want)
	p.tells(c, told{e: e})
	p.has(was...)
}

// has asks for just those objects.
func (p *pair) has(l ...api.Object) {
	p.t.Helper()
	if !slices.Equal(p.want, l) {
		p.t.Fatalf("the store has %v, want %v", p.want, l)
	}
	p.holds("the store")
}

// states asks for just those states, from the object 0 on; -1 of what is no process.
func (p *pair) states(l ...api.ProcState) {
	p.t.Helper()
	for oid, st := range l {
		now, is := procs.State(p.s, oid)
		if is != (st >= 0) || is && now != st || !is && now != 0 {
			p.t.Fatalf("%d is %v, %v, want %v", oid, now, is, st)
		}
	}
}

// set puts an object into the store by the store's own call.
func (p *pair) set(oid int, o api.Object) {
	p.t.Helper()
	if e := p.s.Put(oid, o); e != ok {
		p.t.Fatalf("the store takes no such object: %v", e)
	}
	p.want[oid] = o
}

func (p *pair) object(oid int) api.Object {
	p.t.Helper()
	o, e := p.s.Get(oid)
	if e != ok {
		p.t.Fatalf("no object %d: %v", oid, e)
	}
	return o
}

// keysOf are the registers 8 to 10 of a node, as they stand there.
func (p *pair) keysOf(oid int) [3]api.Key {
	p.t.Helper()
	l := p.object(oid).Slots
	return [3]api.Key{l[12], l[13], l[14]}
}

func TestTheKeysToTryAreRight(t *testing.T) {
	w := town()
	for _, k := range wrongKeys() {
		if mayBe(k) {
			t.Errorf("%v may be", k)
		}
	}
	for _, k := range beyond(16) {
		if !mayBe(k) || w.mayHave(k) {
			t.Errorf("%v is no key of what the town has not", k)
		}
	}
	for _, k := range slices.Concat(ofNothing(), []api.Key{start(1, 5, 7), start(5, maxCount, 0), resume(2, 4, 7), resume(15, 0, 0), nodeKey(6, 1), pageKey(8, 6)}) {
		if !w.counts(k) {
			t.Errorf("%v does not count", k)
		}
	}
	for _, m := range wrongMessages(16) {
		if w.mayHand(m) {
			t.Errorf("%v may be", m)
		}
	}
	if l := w.running(); !slices.Equal(l, []int{0, 3, 11}) {
		t.Errorf("%v run", l)
	}
	pairOf(t, w).states(1, 0, 2, 1, 2, 0, -1, -1, -1, -1, -1, 1, 2, 0, -1, 2)
}

// The chapter's examples

func TestTheChaptersExamples(t *testing.T) {
	two, three := bareProcess(1, 0, runs), bareProcess(1, 0, available)
	two.Slots[4] = start(3, 1, 7)
	p := pairOf(t, world{{}, {}, two, three})
	p.goes(invoke(2, start(3, 1, 7), calls, message(5, "hi")))
	p.states(-1, -1, waits, runs)
	p.tells(ask(3), told{m: message(5, "hi")})
	k := resume(2, 1, 0)
	if got := p.object(3).Slots[15]; got != k {
		t.Fatalf("3's register 11 is %v", got)
	}
	two.Slots[2] = number(2)
	three.Slots[2], three.Slots[3], three.Slots[15] = number(1), number(5), k
	three.Bytes = [64]byte{2, 'h', 'i'}
	p.has(api.Object{}, api.Object{}, two, three)
	p.goes(invoke(3, k, returns, message(9, "")))
	p.states(-1, -1, runs, available)
	p.refuses(invoke(3, k, returns, message(9, "")), errProc)
	p.refuses(invoke(2, k, calls, message(9, "")), errGone)
	p.staysUsed()
	if got := p.s.Prepared(k); got != (api.Key{}) {
		t.Errorf("it counts: %v", got)
	}
	two.Slots[2], two.Slots[3], two.Calls, three.Slots[2] = number(1), number(9), 1, number(0)
	p.has(api.Object{}, api.Object{}, two, three)
	p.tells(ask(2), told{m: message(9, "")})
	p.tells(running(), told{oids: "2"})
}

// No store, no process

func TestNoStore(t *testing.T) {
	for what, s := range map[string]*objects.Store{"nil": nil, "zero": {}} {
		for _, k := range slices.Concat([]api.Key{start(1, 5, 0), resume(2, 4, 7), start(0, 0, 0)}, ofNothing(), wrongKeys()) {
			for _, m := range []api.Message{{}, message(5, "hi", k), message(5, rising(33, 0)), message(0, "", number(1), k, bare(-1))} {
				for _, n := range append(wrongOids(16), 0, 1, 2, 3) {
					for _, c := range each(n, k, api.Mode(n), m, api.ProcState(n)) {
						want := told{e: errNil}
						if c.which == asksState || c.which == asksRunning {
							want = told{}
						}
						if x := c.of(s); x != want {
							t.Fatalf("a %s store: %v: %v", what, c, x)
						}
					}
				}
			}
		}
		if l := procs.Running(s); len(l) != 0 {
			t.Errorf("a %s store: %v run", what, l)
		}
		if s.Size() != 0 {
			t.Errorf("a %s store has %d objects", what, s.Size())
		}
	}
}

// noStates are keys that make no node a process, in slot 2.
func noStates() []api.Key {
	l := []api.Key{
		{}, bare(8), bare(9), bare(10), number(-1), number(-2), number(-3), number(3), number(4), number(255), number(256), number(257), number(258), number(1 << 31), number(1 << 32), number(1<<32 + 1), number(1<<32 + 2),
		number(-1 << 32), number(math.MaxInt64), number(math.MinInt64), number(math.MinInt64 + 1), number(math.MinInt64 + 2), start(1, 1, 0), start(1, 1, 1), start(1, 1, 2), start(0, 1, 1), resume(1, 1, 1), resume(1, 1, 2),
	}
	return slices.Concat(l, naming(0, 1, 1), naming(2, 6, 0), naming(3, 0, 0))
}

func TestWhichNodesAreProcesses(t *testing.T) {
	for _, k := range noStates() {
		p := pairOf(t, world{nodeWith(k), process(1, 1, runs), full(aPage, 6, 0), {}})
		p.states(-1, runs, -1, -1)
		for _, mode := range []api.Mode{calls, sends, returns} {
			p.refuses(invoke(0, start(1, 1, 0), mode, api.Message{}), errProc)
			p.refuses(invoke(1, start(0, 1, 0), mode, api.Message{}), errGone)
			p.refuses(invoke(1, resume(0, 1, 1), mode, api.Message{}), errGone)
		}
		p.refuses(answer(0, api.Message{}), errProc)
		p.refuses(ask(0), errProc)
		p.tells(running(), told{oids: "1"})
		p.goes(become(0, available))
		p.states(available, runs, -1, -1)
		p.goes(invoke(1, start(0, 1, 0), calls, api.Message{}))
	}
	for st := range api.ProcState(3) {
		for _, o := range []api.Object{process(1, 1, st), bareProcess(1, 1, st), process(1, maxCount, st)} {
			p := pairOf(t, world{o})
			p.tells(state(0), told{state: st, is: true})
			p.does(ask(0))
		}
	}
}

// A number in slot 2 alone makes a process: in no other slot does one.
func TestTheStateIsInSlotTwo(t *testing.T) {
	for slot := range 16 {
		o := api.Object{Kind: aNode, Count: 1}
		o.Slots[slot] = number(1)
		p := pairOf(t, world{o})
		p.tells(state(0), told{state: map[bool]api.ProcState{true: runs}[slot == 2], is: slot == 2})
		o = bareProcess(1, 0, waits)
		o.Slots[slot] = number(1)
		p = pairOf(t, world{o})
		p.tells(state(0), told{state: map[bool]api.ProcState{true: runs, false: waits}[slot == 2], is: true})
	}
}

func TestWhatIsNoNode(t *testing.T) {
	for _, o := range []api.Object{{}, none(free, 1), none(free, maxCount), none(retired, 0), none(retired, maxCount), {Kind: aPage}, full(aPage, 1, 0), {Kind: aPage, Bytes: bytesOf(rising(32, 1))}} {
		p := pairOf(t, world{process(1, 1, runs), o, process(2, 0, available)})
		p.states(runs, -1, available)
		p.refuses(ask(1), errProc)
		p.refuses(answer(1, message(1, "a")), errProc)
		p.refuses(become(1, runs), errProc)
		p.refuses(become(1, 3), errProc)
		p.refuses(invoke(1, start(2, 2, 0), sends, api.Message{}), errProc)
		for _, k := range naming(1, o.Count, 0) {
			p.refuses(invoke(0, k, sends, api.Message{}), errGone)
		}
		p.tells(running(), told{oids: "0"})
	}
}

func TestOidsThatTheStoreHasNot(t *testing.T) {
	for _, w := range []world{town(), {bareProcess(1, 0, runs)}, slices.Repeat(world{bareProcess(0, 0, runs)}, 64)} {
		p := pairOf(t, w)
		for _, oid := range wrongOids(len(w)) {
			p.tells(state(oid), told{})
			p.refuses(ask(oid), errProc)
			p.refuses(answer(oid, message(1, "a")), errProc)
			for _, st := range append(wrongStates(), available, runs, waits) {
				p.refuses(become(oid, st), errProc)
			}
			for _, mode := range []api.Mode{calls, sends, returns} {
				p.refuses(invoke(oid, start(0, w[0].Count, 0), mode, api.Message{}), errProc)
			}
		}
	}
}

// What may not be handed in

func TestModesThatThereAreNot(t *testing.T) {
	p := pairOf(t, town())
	for _, mode := range wrongModes() {
		for _, k := range []api.Key{start(1, 5, 0), resume(2, 4, 7), start(0, 3, 0), {}, start(1, 6, 0), bare(-1)} {
			for oid := -1; oid <= 16; oid++ {
				p.refuses(invoke(oid, k, mode, message(5, "hi")), errArg)
			}
		}
	}
}

func TestKeysThatMayNotBe(t *testing.T) {
	p := pairOf(t, town())
	for _, k := range slices.Concat(wrongKeys(), beyond(16)) {
		for mode := api.Mode(0); mode <= 4; mode++ {
			for oid := -1; oid <= 16; oid++ {
				p.refuses(invoke(oid, k, mode, message(5, "hi")), errArg)
			}
		}
	}
}

func TestMessagesThatMayNotBe(t *testing.T) {
	p := pairOf(t, town())
	for _, m := range wrongMessages(16) {
		for _, oid := range []int{0, 1, 2, 6, 8, -1, 16} {
			p.refuses(answer(oid, m), errArg)
			for _, k := range []api.Key{start(1, 5, 0), resume(2, 4, 7), start(0, 3, 0), {}} {
				for mode := api.Mode(1); mode <= 3; mode++ {
					p.refuses(invoke(oid, k, mode, m), errArg)
				}
			}
		}
	}
}

// What the store has last is in it; one behind it is not.
func TestTheStoresLastObject(t *testing.T) {
	for n := 2; n <= 64; n++ {
		w := slices.Repeat(world{bareProcess(1, 0, available)}, n)
		w[0] = bareProcess(1, 0, runs)
		p := pairOf(t, w)
		if n < 64 {
			p.refuses(invoke(0, start(n, 1, 0), sends, api.Message{}), errArg)
			p.refuses(invoke(0, start(1, 1, 0), sends, message(0, "", nodeKey(n, 1))), errArg)
			p.refuses(answer(0, message(0, "", api.Key{}, api.Key{}, pageKey(n, 1))), errArg)
		}
		p.refuses(invoke(0, resume(n-1, 1, 0), sends, api.Message{}), errBusy)
		p.goes(invoke(0, start(n-1, 1, 0), sends, message(0, "", nodeKey(n-1, 1))))
		p.goes(answer(0, message(0, "", api.Key{}, key(5, n-1, 1))))
		p.tells(running(), told{oids: oidsOf(0, n-1)})
	}
}

// The order of errors, where two or more of them could be told.
func TestTheOrderOfErrors(t *testing.T) {
	p := pairOf(t, town())
	m := message(5, "hi", number(1))
	for _, oid := range []int{1, 2, 4, 5, 6, 7, 8, 9, 10, 13, 14, 15, -1, 16} { // none of them runs
		for _, k := range []api.Key{{}, number(1), start(1, 6, 0), resume(2, 4, 6), start(6, 1, 0), nodeKey(1, 5), start(0, 3, 0), resume(4, 2, maxCount), start(1, 5, 0), resume(2, 4, 7), start(9, 2, 0)} {
			for mode := calls; mode <= returns; mode++ {
				p.refuses(invoke(oid, k, mode, m), errProc)
			}
		}
	}
	for _, k := range []api.Key{{}, start(4, 3, 0), start(6, 1, 0), start(14, 1, 0), resume(3, 1, 0), resume(7, 1, 1), nodeKey(1, 5), pageKey(8, 6), start(9, 2, 0), start(10, maxCount, 0)} {
		p.refuses(invoke(3, k, calls, m), errGone) // who calls has no more calls, too
		p.refuses(invoke(3, k, sends, m), errGone)
		p.refuses(invoke(3, k, returns, m), errGone)
	}
	for _, k := range []api.Key{start(0, 3, 0), start(2, 4, 0), start(3, 1, 0), start(4, 2, 0), resume(3, 1, maxCount), resume(5, maxCount, maxCount), resume(1, 5, 0), resume(0, 3, 2)} {
		p.refuses(invoke(3, k, calls, m), errBusy) // who calls has no more calls, some of whom are called neither
	}
	p.refuses(invoke(0, resume(3, 1, maxCount), sends, m), errBusy)
	p.refuses(invoke(0, resume(5, maxCount, maxCount), returns, m), errBusy)
	p.refuses(invoke(3, start(1, 5, 0), calls, m), errCalls)
	p.refuses(invoke(3, resume(4, 2, maxCount), calls, m), errCalls)
	for _, st := range wrongStates() {
		for _, oid := range []int{8, 9, 10, -1, 16} {
			p.refuses(become(oid, st), errProc)
		}
		p.refuses(become(6, st), errArg)
	}
	for _, m := range wrongMessages(16)[:40] {
		for _, mode := range append(wrongModes(), calls) {
			p.refuses(invoke(3, start(0, 3, 0), mode, m), errArg)
		}
	}
}

// By whom, and who is come to

func TestByEachKind(t *testing.T) {
	w := town()
	for _, oid := range []int{0, 3, 11} {
		for to, o := range w {
			for _, k := range slices.Concat(naming(to, o.Count, o.Calls), naming(to, (o.Count+1)%(maxCount+1), o.Calls), naming(to, o.Count, (o.Calls+1)%(maxCount+1)), naming(to, (o.Count+maxCount)%(maxCount+1), 0)) {
				for mode := calls; mode <= returns; mode++ {
					p := pairOf(t, w)
					e := p.does(invoke(oid, k, mode, message(7, "abc", k, number(8), k))).e
					leads := k.Kind == 6 || k.Kind == 7 && k.Call == o.Calls
					if leads = leads && k.Count == o.Count && w.state(to) >= 0; leads == (e == errGone) {
						t.Fatalf("%d by %v in mode %d: %v", oid, k, mode, e)
					}
					p.staysUsed()
				}
			}
		}
		for _, k := range ofNothing() {
			for mode := calls; mode <= returns; mode++ {
				pairOf(t, w).refuses(invoke(oid, k, mode, message(7, "abc")), errGone)
			}
		}
	}
}

func TestAStartKeyInEachState(t *testing.T) {
	for mode := calls; mode <= returns; mode++ {
		for st := range api.ProcState(3) {
			p := pairOf(t, world{process(1, 4, runs), process(2, 6, st)})
			c := invoke(0, start(1, 2, -5), mode, message(7, "abc"))
			if st != available {
				p.refuses(c, errBusy)
				continue
			}
			p.goes(c)
			p.states([]api.ProcState{calls: waits, sends: runs, returns: available}[mode], runs)
			p.refuses(c, map[api.Mode]api.Errno{calls: errProc, sends: errBusy, returns: errProc}[mode])
		}
	}
}

func TestAProcessInvokesItself(t *testing.T) {
	for _, o := range []api.Object{process(3, 5, runs), bareProcess(3, 5, runs), process(3, maxCount, runs)} {
		for _, badge := range []int64{0, 1, -1, math.MaxInt64} {
			k, m := start(0, 3, badge), message(-4, "again", start(0, 3, 1), nodeKey(0, 3), resume(0, 3, o.Calls))
			p := pairOf(t, world{o, process(1, 1, available)})
			p.refuses(invoke(0, k, calls, m), errBusy)
			p.refuses(invoke(0, k, sends, m), errBusy)
			p.goes(invoke(0, k, returns, m))
			want := o
			want.Slots[2], want.Slots[3] = number(1), number(-4)
			want.Slots[12], want.Slots[13], want.Slots[14], want.Slots[15] = m.Keys[0], m.Keys[1], m.Keys[2], api.Key{}
			want.Bytes = bytesOf("again")
			p.has(want, process(1, 1, available))
			p.tells(ask(0), told{m: m})
			for mode := calls; mode <= returns; mode++ {
				p.refuses(invoke(0, resume(0, 3, o.Calls), mode, m), errBusy)
				p.refuses(invoke(0, resume(0, 3, o.Calls-1), mode, m), errGone)
				p.refuses(invoke(0, start(0, 2, badge), mode, m), errGone)
			}
			p.goes(become(0, available))
			p.refuses(invoke(0, k, returns, m), errProc)
		}
	}
}

func TestAResumeKeyInEachState(t *testing.T) {
	for mode := calls; mode <= returns; mode++ {
		for st := range api.ProcState(3) {
			for _, n := range []int64{0, 1, 5, maxCount - 1} {
				p := pairOf(t, world{process(1, 4, runs), process(2, n, st)})
				for _, other := range []int64{0, n - 1, n + 1, n + 2, 1, 4, maxCount} {
					if other >= 0 && other <= maxCount && other != n {
						p.refuses(invoke(0, resume(1, 2, other), mode, message(7, "abc")), errGone)
					}
				}
				c := invoke(0, resume(1, 2, n), mode, message(7, "abc"))
				if st != waits {
					p.refuses(c, errBusy)
					continue
				}
				p.goes(c)
				p.states([]api.ProcState{calls: waits, sends: runs, returns: available}[mode], runs)
				if got := p.object(1).Calls; got != n+1 {
					t.Fatalf("the Calls were %d, are %d", n, got)
				}
				p.goes(become(0, runs))
				p.goes(become(1, waits))
				p.refuses(c, errGone)
				p.staysUsed()
			}
		}
	}
}

func TestMaxCountCalls(t *testing.T) {
	for mode := calls; mode <= returns; mode++ {
		for _, n := range []int64{0, 1, maxCount - 2, maxCount - 1, maxCount} {
			// who is answered has so many
			p := pairOf(t, world{process(1, 4, runs), process(2, n, waits)})
			c := invoke(0, resume(1, 2, n), mode, message(7, "abc"))
			if n == maxCount {
				p.refuses(c, errCalls)
			} else {
				p.goes(c)
			}
			// who is called has so many: that says nothing
			p = pairOf(t, world{process(1, 4, runs), process(2, n, available)})
			p.goes(invoke(0, start(1, 2, 0), mode, message(7, "abc")))
			// who invokes has so many
			for _, to := range []api.Object{process(2, 3, available), process(2, 3, waits)} {
				k := start(1, 2, 0)
				if to.Slots[2] == number(2) {
					k = resume(1, 2, 3)
				}
				p = pairOf(t, world{process(1, n, runs), to})
				c = invoke(0, k, mode, message(7, "abc"))
				if n == maxCount && mode == calls {
					p.refuses(c, errCalls)
				} else {
					p.goes(c)
				}
			}
		}
	}
	// the last call that there is, and its answer
	p := pairOf(t, world{process(1, maxCount-1, runs), process(2, 3, available)})
	p.goes(invoke(0, start(1, 2, 0), calls, message(7, "abc")))
	p.goes(invoke(1, resume(0, 1, maxCount-1), returns, message(8, "abc")))
	p.refuses(invoke(0, start(1, 2, 0), calls, message(7, "abc")), errCalls)
	p.goes(invoke(0, start(1, 2, 0), sends, message(7, "abc")))
	p.staysUsed()
	if got := p.object(0).Calls; got != maxCount {
		t.Errorf("the Calls are %d", got)
	}
}

// What stands behind it

// What is handed over, by hand: all of both processes.
func TestWhatIsHandedOver(t *testing.T) {
	for mode := calls; mode <= returns; mode++ {
		for _, st := range []api.ProcState{available, waits} {
			from, to := process(4, 9, runs), process(6, 2, st)
			p := pairOf(t, world{full(aPage, 1, 0), from, to, full(aNode, 1, 1)})
			k, answerKey := start(2, 6, 5), api.Key{}
			if st == waits {
				k = resume(2, 6, 2)
				to.Calls = 3
			}
			m := message(-77, "some data", nodeKey(1, 4), pageKey(0, 1), number(12))
			p.goes(invoke(1, k, mode, m))
			switch mode {
			case calls:
				from.Slots[2], answerKey = number(2), resume(1, 4, 9)
			case returns:
				from.Slots[2] = number(0)
			}
			to.Slots[2], to.Slots[3], to.Slots[15] = number(1), number(-77), answerKey
			to.Slots[12], to.Slots[13], to.Slots[14] = nodeKey(1, 4), pageKey(0, 1), number(12)
			to.Bytes = [64]byte{9, 's', 'o', 'm', 'e', ' ', 'd', 'a', 't', 'a'}
			p.has(full(aPage, 1, 0), from, to, full(aNode, 1, 1))
			p.tells(ask(2), told{m: m})
		}
	}
}

// handing is a call by which the object 1 of a store of two is handed a message over.
type handing struct {
	call
	world
}

// handings are all ways in which that may be.
func handings(m api.Message) (l []handing) {
	who := process(1, 1, runs)
	for mode := calls; mode <= returns; mode++ {
		l = append(l, handing{invoke(0, start(1, 2, 0), mode, m), world{who, process(2, 2, available)}})
		l = append(l, handing{invoke(0, resume(1, 2, 2), mode, m), world{who, process(2, 2, waits)}})
	}
	l = append(l, handing{invoke(1, start(1, 2, 0), returns, m), world{who, process(2, 2, runs)}})
	return append(l, handing{answer(1, m), world{who, process(2, 2, runs)}})
}

func TestDataOfEachLength(t *testing.T) {
	for _, data := range someData() {
		for _, x := range handings(message(1, data)) {
			p := pairOf(t, x.world)
			p.goes(x.call)
			o := p.object(1)
			if int(o.Bytes[0]) != len(data) || string(o.Bytes[1:1+len(data)]) != data || string(o.Bytes[1+len(data):]) != strings.Repeat("\x00", 63-len(data)) {
				t.Fatalf("%q: the bytes are %v", data, o.Bytes)
			}
			p.tells(ask(1), told{m: message(1, data)})
		}
	}
	for _, data := range longData() {
		for _, x := range handings(message(1, data)) {
			pairOf(t, x.world).refuses(x.call, errArg)
		}
	}
}

func TestEachCode(t *testing.T) {
	for _, code := range codes() {
		for _, x := range handings(message(code, "")) {
			p := pairOf(t, x.world)
			p.goes(x.call)
			if got := p.object(1).Slots[3]; got != number(code) {
				t.Fatalf("the code %d: slot 3 is %v", code, got)
			}
			p.tells(ask(1), told{m: message(code, "")})
		}
	}
}

// The keys of a message, at each of its three places: one that does not count is handed over as the void key.
func TestTheKeysOfAMessage(t *testing.T) {
	count := slices.Concat(ofNothing(), naming(0, 1, 1)[2:], []api.Key{start(1, 2, 9), nodeKey(1, 2), resume(1, 2, 2)})
	not := slices.Concat(naming(0, 2, 1), naming(0, 1, 1)[:2], naming(1, 1, 2), naming(1, 3, 2), naming(0, 0, 0), []api.Key{resume(0, 1, 0), resume(0, 1, 2), resume(1, 2, 1), resume(1, 2, 3), resume(0, 1, maxCount)})
	for at := range 3 {
		for i, k := range slices.Concat(count, not) {
			m := message(1, "x", number(-1), number(-2), number(-3))
			m.Keys[at] = k
			want := m.Keys
			if i >= len(count) {
				want[at] = api.Key{}
			}
			for _, x := range handings(m) {
				p := pairOf(t, x.world)
				p.goes(x.call)
				if got := p.keysOf(1); got != want {
					t.Fatalf("%v: the registers 8 to 10 are %v, want %v", x.call, got, want)
				}
			}
		}
	}
}

// A key in a message that does not count is void for good: also where its number is given so often later on.
func TestKeysThatDoNotCountStayVoid(t *testing.T) {
	late := []api.Key{nodeKey(2, 5), start(2, 5, 0), resume(1, 2, 9)}
	for _, x := range handings(message(1, "x", late...)) {
		p := pairOf(t, append(x.world, full(aNode, 4, 0)))
		p.goes(x.call)
		p.set(2, full(aNode, 5, 0))
		o := p.object(1)
		o.Calls = 9
		p.set(1, o)
		for _, k := range late {
			if p.s.Prepared(k) != k {
				t.Fatalf("%v does not count", k)
			}
		}
		p.tells(ask(1), told{m: message(1, "x")})
	}
}

// The resume key by which is invoked goes over as it is, and counts no more.
func TestTheKeyInItsOwnMessage(t *testing.T) {
	for mode := calls; mode <= returns; mode++ {
		for at := range 4 {
			k := resume(1, 2, 2)
			m := message(3, "y", number(1), number(2), number(3))
			want := m
			if at == 3 {
				m.Keys, want.Keys = [3]api.Key{k, k, k}, [3]api.Key{}
			} else {
				m.Keys[at], want.Keys[at] = k, api.Key{}
			}
			p := pairOf(t, world{process(1, 1, runs), process(2, 2, waits)})
			p.goes(invoke(0, k, mode, m))
			if got := p.keysOf(1); got != m.Keys {
				t.Fatalf("the registers 8 to 10 are %v, want %v", got, m.Keys)
			}
			p.tells(ask(1), told{m: want})
			p.staysUsed()
		}
	}
}

// The answer key: of who called, with its Calls; void where nobody waits.
func TestTheAnswerKey(t *testing.T) {
	for _, n := range []int64{0, 1, 2, 77, maxCount - 1} {
		for _, count := range []int64{0, 1, 5, maxCount} {
			for mode := calls; mode <= returns; mode++ {
				for _, k := range []api.Key{start(1, 2, 0), resume(2, 2, 2)} {
					p := pairOf(t, world{process(count, n, runs), process(2, 2, available), process(2, 2, waits)})
					p.goes(invoke(0, k, mode, api.Message{}))
					want := api.Key{}
					if mode == calls {
						want = resume(0, count, n)
					}
					got := p.object(k.Oid).Slots[15]
					if got != want || p.s.Prepared(got) != want {
						t.Fatalf("the answer key is %v, want %v", got, want)
					}
				}
			}
		}
	}
}

// Nothing else: all other objects, and of both processes what is not told.
func TestNothingElseIsChanged(t *testing.T) {
	for mode := calls; mode <= returns; mode++ {
		for _, k := range []api.Key{start(1, 5, 3), start(5, maxCount, 3), start(13, 0, 3), resume(2, 4, 7), resume(12, 9, maxCount-1), resume(15, 0, 0)} {
			was, p := town(), pairOf(t, town())
			p.goes(invoke(0, k, mode, message(9, "nothing else", nodeKey(6, 1), start(1, 5, 1), bare(8))))
			for oid, o := range p.s.All() {
				ahead := was[oid]
				switch oid {
				case 0:
					ahead.Slots[2] = o.Slots[2]
				case k.Oid:
					copy(ahead.Slots[2:4], o.Slots[2:4])
					copy(ahead.Slots[12:], o.Slots[12:])
					ahead.Bytes = o.Bytes
					if k.Kind == 7 {
						ahead.Calls++
					}
				}
				if o != ahead {
					t.Fatalf("%d by %v in mode %d: %v, want %v", oid, k, mode, o, ahead)
				}
			}
		}
	}
}

// What is handed in stays as it is.
func TestWhatIsHandedInStays(t *testing.T) {
	data := []byte("some bytes")
	for _, x := range handings(message(5, string(data), nodeKey(0, 9), resume(1, 2, 2), number(3))) {
		was := x.call
		p := pairOf(t, x.world)
		p.goes(x.call)
		if x.call != was || string(data) != "some bytes" {
			t.Fatalf("%v was changed to %v", was, x.call)
		}
	}
}

// Answer

func TestAnswerInEachState(t *testing.T) {
	for st := range api.ProcState(3) {
		for _, n := range []int64{0, 5, maxCount} {
			o := process(3, n, st)
			p := pairOf(t, world{o, process(1, 1, runs)})
			m := message(42, "told", start(0, 3, 1), api.Key{}, nodeKey(1, 1))
			if st != runs {
				p.refuses(answer(0, m), errProc)
				continue
			}
			p.goes(answer(0, m))
			o.Slots[2], o.Slots[3], o.Slots[15] = number(1), number(42), api.Key{}
			o.Slots[12], o.Slots[13], o.Slots[14] = m.Keys[0], api.Key{}, m.Keys[2]
			o.Bytes = [64]byte{4, 't', 'o', 'l', 'd'}
			p.has(o, process(1, 1, runs))
			p.tells(ask(0), told{m: m})
			p.tells(running(), told{oids: "0 1"})
			p.goes(answer(0, api.Message{}))
			p.tells(ask(0), told{})
		}
	}
}

func TestAnswerOfEachObject(t *testing.T) {
	p := pairOf(t, town())
	for oid := range town() {
		c := answer(oid, message(int64(oid), "z", number(1)))
		if oid == 0 || oid == 3 || oid == 11 {
			p.goes(c)
		} else {
			p.refuses(c, errProc)
		}
	}
}

// Told

func TestToldOfEachFirstByte(t *testing.T) {
	for st := range api.ProcState(3) {
		for first := range 256 {
			o := bareProcess(1, 0, st)
			copy(o.Bytes[:], rising(64, 10))
			o.Bytes[0] = byte(first)
			p, want := pairOf(t, world{o}), ""
			if first <= 32 {
				want = rising(first, 11)
			}
			p.tells(ask(0), told{m: message(0, want)})
		}
	}
}

func TestToldOfEachSlotThree(t *testing.T) {
	for _, code := range codes() {
		o := bareProcess(1, 0, runs)
		o.Slots[3] = number(code)
		pairOf(t, world{o}).tells(ask(0), told{m: message(code, "")})
	}
	for _, k := range slices.Concat(naming(0, 1, 0), naming(0, 2, 0), []api.Key{{}, start(0, 1, 55), start(0, 3, 55), bare(8), bare(9), bare(10)}) {
		o := bareProcess(1, 0, runs)
		o.Slots[3] = k
		pairOf(t, world{o}).tells(ask(0), told{})
	}
}

func TestToldOfRegisters(t *testing.T) {
	for slot := range 16 {
		for _, k := range slices.Concat(naming(0, 1, 4), naming(1, 6, 0), ofNothing(), naming(0, 2, 4), naming(0, 1, 3), naming(2, 0, 0)) {
			o := bareProcess(1, 4, waits)
			if slot == 2 || slot == 3 {
				continue
			}
			o.Slots[slot] = k
			w := world{o, full(aPage, 6, 0), {}}
			p := pairOf(t, w)
			var m api.Message
			if slot >= 12 && slot <= 14 {
				m.Keys[slot-12] = w.asItCounts(k)
			}
			p.tells(ask(0), told{m: m})
		}
	}
}

func TestToldOfEachObject(t *testing.T) {
	p := pairOf(t, town())
	for oid := range town() {
		if p.want.state(oid) < 0 {
			p.refuses(ask(oid), errProc)
		} else {
			p.does(ask(oid))
		}
	}
	p.has(town()...)
}

// Running

func TestRunning(t *testing.T) {
	p := pairOf(t, town())
	p.tells(running(), told{oids: "0 3 11"})
	if l := procs.Running(pairOf(t, world{{}, process(1, 1, waits), process(1, 1, available), nodeWith(start(0, 0, 1))}).s); len(l) != 0 {
		t.Errorf("%v run", l)
	}
	for n := 1; n <= 64; n++ {
		w, want := make(world, n), []int(nil)
		for i := range w {
			w[i] = bareProcess(0, 0, api.ProcState(i*i%3))
			if i*i%3 == 1 {
				want = append(want, i)
			}
		}
		pairOf(t, w).tells(running(), told{oids: oidsOf(want...)})
		pairOf(t, slices.Repeat(world{bareProcess(0, 0, runs)}, n)).tells(running(), told{oids: oidsOf(slices.Collect(upTo(n))...)})
	}
}

func upTo(n int) func(func(int) bool) {
	return func(yield func(int) bool) {
		for i := 0; i < n && yield(i); i++ {
		}
	}
}

func TestRunningIsNewMemory(t *testing.T) {
	p := pairOf(t, town())
	l := procs.Running(p.s)
	other := procs.Running(p.s)
	for i := range l {
		l[i] = 99
	}
	l = append(l, 98)
	if !slices.Equal(other, []int{0, 3, 11}) || len(l) != 4 {
		t.Errorf("another answer was changed: %v", other)
	}
	p.tells(running(), told{oids: "0 3 11"})
	p.has(town()...)
	p.goes(become(3, waits))
	if !slices.Equal(other, []int{0, 3, 11}) {
		t.Errorf("an answer was changed by the store: %v", other)
	}
}

func TestWhatIsToldGoesOnApart(t *testing.T) {
	p := pairOf(t, world{process(1, 1, runs), process(2, 2, available)})
	m := message(5, "first", nodeKey(0, 1), number(2))
	p.goes(invoke(0, start(1, 2, 0), calls, m))
	got, e := procs.Told(p.s, 1)
	if e != ok || got != m {
		t.Fatalf("told %v, %v", got, e)
	}
	p.goes(answer(1, message(6, "other", number(3))))
	if got != m {
		t.Errorf("what was told is %v", got)
	}
	got.Keys[0], got.Code = number(99), 98
	p.tells(ask(1), told{m: message(6, "other", number(3))})
}

// Become

func TestBecomeOfEachState(t *testing.T) {
	p, want := pairOf(t, town()), town()
	for oid, o := range want {
		for _, st := range []api.ProcState{available, runs, waits, waits, available, waits, runs, available} {
			if o.Kind != aNode {
				p.refuses(become(oid, st), errProc)
				continue
			}
			p.goes(become(oid, st))
			want[oid].Slots[2] = number(int64(st))
			p.has(want...)
			p.tells(state(oid), told{state: st, is: true})
		}
		for _, st := range wrongStates() {
			e := errProc
			if o.Kind == aNode {
				e = errArg
			}
			p.refuses(become(oid, st), e)
		}
	}
}

// A process that becomes waiting by it is answered by a resume key with its Calls, as any.
func TestBecomeWaiting(t *testing.T) {
	p := pairOf(t, world{bareProcess(1, 6, runs), nodeWith(number(9))})
	p.goes(become(1, waits))
	p.goes(invoke(0, resume(1, 1, 1), returns, message(2, "w")))
	p.states(available, runs)
	p.goes(become(1, waits))
	p.refuses(answer(1, api.Message{}), errProc)
	p.tells(running(), told{})
	p.staysUsed()
}

// P13.3

// Copies of a resume key stand everywhere: behind its use none of them counts, whoever has it.
func TestAResumeKeyIsUsedOnce(t *testing.T) {
	for mode := calls; mode <= returns; mode++ {
		k := resume(2, 1, 4)
		holder := api.Object{Kind: aNode, Count: 1}
		for slot := range holder.Slots {
			holder.Slots[slot] = k
		}
		user, waiter := holder, holder
		user.Slots[2], waiter.Slots[2], waiter.Calls = number(1), number(2), 4
		p := pairOf(t, world{holder, user, waiter, bareProcess(1, 0, available)})
		p.goes(invoke(1, k, mode, message(1, "", k, k, k)))
		for oid, o := range p.s.All() {
			for slot, k := range o.Slots {
				if k.Kind == 7 && k.Oid == 2 && p.s.Prepared(k) != (api.Key{}) {
					t.Fatalf("%v in the slot %d of %d counts", k, slot, oid)
				}
			}
		}
		p.goes(become(1, runs))
		for again := range int64(3) { // it waits anew, and is answered by new keys
			for mode := calls; mode <= returns; mode++ {
				p.goes(become(2, waits))
				p.refuses(invoke(1, k, mode, api.Message{}), errGone)
			}
			p.goes(invoke(1, resume(2, 1, 5+again), sends, message(1, "", k)))
			p.staysUsed()
		}
		if got := p.object(2).Slots[12]; got != (api.Key{}) {
			t.Fatalf("a key that was used is handed over: %v", got)
		}
	}
}

// What was used stays used over all calls of two processes, of which each asks the other one.
func TestCallsToAndFro(t *testing.T) {
	p := pairOf(t, world{bareProcess(1, 0, runs), bareProcess(2, 0, available)})
	for n := range int64(40) {
		a, b := resume(0, 1, n), resume(1, 2, n)
		p.goes(invoke(0, start(1, 2, 0), calls, message(n, "ask")))
		p.states(waits, runs)
		p.refuses(invoke(1, start(0, 1, 0), calls, message(n, "")), errBusy)
		p.goes(invoke(1, a, calls, message(n, "ask back", a))) // it answers, and waits for an answer to that
		p.states(runs, waits)
		p.refuses(invoke(0, a, returns, api.Message{}), errGone)
		if got := p.object(0).Slots[15]; got != b {
			t.Fatalf("the answer key is %v, want %v", got, b)
		}
		p.goes(invoke(0, b, sends, message(n, "answer")))
		p.states(runs, runs)
		p.goes(become(1, available))
		p.staysUsed()
	}
}

// P13.4

// A call and its answer: both are as they were, but for what was told, and the Calls of who called.
func TestACallAndItsAnswer(t *testing.T) {
	for _, from := range []api.Object{process(1, 1, runs), bareProcess(1, 1, runs), process(1, maxCount-1, runs)} {
		for _, to := range []api.Object{process(2, 2, available), bareProcess(2, 2, available), process(2, maxCount, available)} {
			p := pairOf(t, world{from, to, process(1, 1, runs), process(1, 1, waits)})
			p.goes(invoke(0, start(1, 2, 3), calls, message(5, "there", number(1))))
			p.tells(running(), told{oids: "1 2"})
			p.goes(invoke(1, p.object(1).Slots[15], returns, message(6, "and back", number(2))))
			p.tells(running(), told{oids: "0 2"})
			p.states(runs, available, runs, waits)
			wantFrom, wantTo := from, to
			for _, x := range []struct {
				o      *api.Object
				m      api.Message
				answer api.Key
			}{{&wantFrom, message(6, "and back", number(2)), api.Key{}}, {&wantTo, message(5, "there", number(1)), resume(0, 1, from.Calls)}} {
				copy(x.o.Slots[12:], x.m.Keys[:])
				x.o.Slots[3], x.o.Slots[15] = number(x.m.Code), x.answer
				x.o.Bytes = bytesOf(x.m.Data)
			}
			wantFrom.Calls++
			p.has(wantFrom, wantTo, process(1, 1, runs), process(1, 1, waits))
			p.staysUsed()
		}
	}
}

func TestHowManyRun(t *testing.T) {
	for n := 2; n <= 64; n += 7 {
		w := slices.Repeat(world{bareProcess(1, 0, available)}, n)
		w[0] = bareProcess(1, 0, runs)
		p := pairOf(t, w)
		for oid := 1; oid < n; oid++ { // each calls the next one
			p.goes(invoke(oid-1, start(oid, 1, 0), calls, api.Message{}))
			p.tells(running(), told{oids: oidsOf(oid)})
		}
		for oid := n - 1; oid > 0; oid-- { // and is answered by it
			p.goes(invoke(oid, resume(oid-1, 1, 0), returns, api.Message{}))
			p.tells(running(), told{oids: oidsOf(oid - 1)})
		}
		for oid := 1; oid < n; oid++ { // sent to, they run besides
			p.goes(invoke(0, start(oid, 1, 0), sends, api.Message{}))
			p.tells(running(), told{oids: oidsOf(slices.Collect(upTo(oid + 1))...)})
		}
	}
}

// What is there counts

// A process is what its node says now: nothing of an earlier call is kept.
func TestProcessesGoByTheStore(t *testing.T) {
	p := pairOf(t, world{bareProcess(1, 0, runs), bareProcess(1, 0, available), {}})
	k := start(1, 1, 0)
	p.goes(invoke(0, k, sends, message(1, "a")))
	p.set(1, bareProcess(1, 0, available))
	p.tells(ask(1), told{})
	p.goes(invoke(0, k, sends, message(2, "b")))
	p.set(1, none(free, 1))
	p.refuses(invoke(0, k, sends, message(3, "c")), errGone)
	p.tells(running(), told{oids: "0"})
	p.set(1, bareProcess(2, 0, available))
	p.refuses(invoke(0, k, sends, message(3, "c")), errGone)
	p.goes(invoke(0, start(1, 2, 0), sends, message(3, "c")))
	p.set(0, full(aPage, 1, 0))
	p.refuses(invoke(0, k, sends, message(3, "c")), errProc)
}

// Each of two stores is asked by itself.
func TestStoresGoOnApart(t *testing.T) {
	a, b := pairOf(t, town()), pairOf(t, town())
	c := &pair{t: t, s: a.s.Copy(), want: town()}
	a.goes(invoke(0, start(1, 5, 0), calls, message(1, "a")))
	b.goes(invoke(0, resume(2, 4, 7), calls, message(2, "b")))
	b.goes(become(6, runs))
	a.holds("another store was changed")
	b.holds("another store was changed")
	c.holds("a copy was changed")
	c.goes(answer(3, message(3, "c")))
	a.holds("the first one of a copy was changed")
}

// All pairs of processes, in each state, with few and with all Calls: each call answers as the document does.
func TestAllPairs(t *testing.T) {
	var l []api.Object
	for st := range api.ProcState(3) {
		for _, n := range []int64{0, 1, maxCount - 1, maxCount} {
			l = append(l, process(1, n, st))
		}
	}
	l = append(l, nodeWith(number(3)), full(aPage, 1, 0), none(free, 1))
	for _, a := range l {
		for _, b := range l {
			w := world{a, b, process(1, 1, runs)}
			for from := range 2 {
				for to := range 2 {
					for mode := api.Mode(0); mode <= 4; mode++ {
						for _, k := range []api.Key{start(to, 1, 2), start(to, 0, 2), resume(to, 1, w[to].Calls), resume(to, 1, w[to].Calls/2)} {
							p := pairOf(t, w)
							p.does(invoke(from, k, mode, message(8, "p", k, resume(from, 1, w[from].Calls), resume(1-from, 1, 1))))
							p.does(invoke(1-from, p.object(1 - from).Slots[15], mode, message(9, "q", k)))
							p.does(running())
							p.staysUsed()
						}
					}
				}
			}
		}
	}
}

// All that may be asked, and may not: no call gives up, and each answers as the document does.
func TestAllThatMayBeAsked(t *testing.T) {
	l := slices.Concat(wrongKeys(), beyond(16)[:20], ofNothing(), []api.Key{start(1, 5, 0), start(6, 1, 0), resume(2, 4, 7), resume(2, 4, 8), start(0, 3, 1), nodeKey(1, 5)})
	messages := []api.Message{{}, message(math.MinInt64, rising(32, 0), nodeKey(6, 1)), message(1, rising(33, 0)), message(1, "\xff", bare(-1)), message(math.MaxInt64, "", number(1), number(2), nodeKey(16, 0))}
	p := pairOf(t, town())
	for _, oid := range append(wrongOids(16), 1, 2, 6, 8, 0, 3) {
		for i, k := range l {
			for _, mode := range append(wrongModes(), calls, sends, returns) {
				p.does(invoke(oid, k, mode, messages[(i+int(mode&3))%len(messages)]))
			}
		}
		for _, m := range messages {
			p.does(answer(oid, m))
		}
		for _, st := range append(wrongStates(), waits, available, runs) {
			p.does(become(oid, st))
		}
		p.does(state(oid))
		p.does(ask(oid))
		p.does(running())
	}
}

// Many calls in no order

// chance is numbers that are the same each time.
func chance(from uint32) func(n int) int {
	return func(n int) int {
		from = from*1664525 + 1013904223
		return int(from>>8) % n
	}
}

func pick[T any](next func(n int) int, l []T) T { return l[next(len(l))] }

// someWorld is mostly processes, of which some have nearly used up their Calls.
func someWorld(next func(n int) int, n int) world {
	w := world{bareProcess(1, 0, runs)}
	for len(w) < n {
		count, calls := int64(next(3)), pick(next, []int64{0, 0, 0, 1, 7, maxCount - 4, maxCount - 1, maxCount})
		w = append(w, pick(next, []api.Object{
			process(count, calls, runs), process(count, calls, available), process(count, calls, available), bareProcess(count, calls, available), process(count, calls, waits), full(aNode, count, calls), full(aPage, count, 0), none(free, count), none(retired, count),
		}))
	}
	return w
}

// someKey is of any kind; mostly it counts, and leads on.
func (w world) someKey(next func(n int) int) api.Key {
	oid := next(len(w))
	o := w[oid]
	switch next(24) {
	case 0:
		return pick(next, slices.Concat(wrongKeys(), ofNothing()))
	case 1:
		return pick(next, naming(oid, int64(next(4)), int64(next(3))))
	case 2, 3:
		return pick(next, naming(oid, o.Count, o.Calls))
	case 4:
		return pick(next, o.Slots[:])
	}
	if w.state(oid) == waits {
		return resume(oid, o.Count, o.Calls)
	}
	return start(oid, o.Count, int64(next(9)))
}

func (w world) someMessage(next func(n int) int) api.Message {
	m := message(int64(next(2000)-1000), rising(next(33), byte(next(256))))
	for i := range m.Keys {
		if m.Keys[i] = w.someKey(next); !mayBe(m.Keys[i]) && next(4) > 0 {
			m.Keys[i] = api.Key{}
		}
	}
	if next(30) == 0 {
		m.Data += rising(20, 4)
	}
	return m
}

// someOid is mostly that of a process that runs.
func (w world) someOid(next func(n int) int) int {
	if l := w.running(); len(l) > 0 && next(12) > 0 {
		return pick(next, l)
	}
	return next(len(w)+2) - 1
}

func (p *pair) someCall(next func(n int) int) call {
	oid, m := p.want.someOid(next), p.want.someMessage(next)
	switch next(16) {
	case 0:
		return answer(oid, m)
	case 1:
		return ask(next(len(p.want)+2) - 1)
	case 2:
		return state(next(len(p.want)+2) - 1)
	case 3:
		return running()
	case 4:
		return become(next(len(p.want)+2)-1, api.ProcState(next(5)-1))
	case 5:
		return invoke(oid, p.want.someKey(next), pick(next, wrongModes()), m)
	}
	return invoke(oid, p.want.someKey(next), 1+api.Mode(next(3)), m)
}

func TestManyCalls(t *testing.T) {
	type seen struct {
		which int
		e     api.Errno
	}
	came := make(map[seen]int)
	for i := range 120 {
		next := chance(uint32(i))
		p := pairOf(t, someWorld(next, []int{1, 2, 3, 5, 8, 13, 20, 64}[i%8]))
		for range 250 {
			c := p.someCall(next)
			came[seen{c.which, p.does(c).e}]++
		}
		p.staysUsed()
	}
	for which, l := range [][]api.Errno{
		asksState: {ok}, invokes: {ok, errArg, errProc, errGone, errBusy, errCalls}, answers: {ok, errArg, errProc}, asksTold: {ok, errProc}, asksRunning: {ok}, becomes: {ok, errArg, errProc},
	} {
		for _, e := range l {
			if came[seen{which, e}] < 15 {
				t.Errorf("the call %d answered %d only %d times", which, e, came[seen{which, e}])
			}
		}
	}
}
