package machine_test

import (
	"fmt"
	"math"
	"math/big"
	"slices"
	"strings"
	"testing"

	"chatelaine/api"
	"chatelaine/machine"
	"chatelaine/objects"
	"chatelaine/orders"
)

// What the document says of a machine, and of processes, stands here once more, in plain words and numbers of its own. What is done by an order is asked of layer 14, which has tests of its own.

const (
	maxCount = 4294967295
	maxData  = 32
	maxTime  = 4611686018427387904
	maxTick  = 1099511627776

	ok       = api.Errno(0)
	errNil   = api.Errno(1)
	errArg   = api.Errno(2)
	errKey   = api.Errno(190)
	errRight = api.Errno(191)
	errGone  = api.Errno(231)
	errBusy  = api.Errno(232)
	errCalls = api.Errno(233)
	errOrder = api.Errno(240)

	isNone    = api.ProcState(-1)
	available = api.ProcState(0)
	runs      = api.ProcState(1)
	waits     = api.ProcState(2)

	calls   = api.Mode(1)
	sends   = api.Mode(2)
	returns = api.Mode(3)

	idle    = api.OutKind(1)
	handed  = api.OutKind(2)
	refused = api.OutKind(3)
	told    = api.OutKind(4)
	ticked  = api.OutKind(5)

	free    = api.ObjKind(0)
	aNode   = api.ObjKind(1)
	aPage   = api.ObjKind(2)
	retired = api.ObjKind(3)
)

func modes() []api.Mode { return []api.Mode{calls, sends, returns} }

// world is what a machine should have; one of no objects stands for no machine.
type world struct {
	l   []api.Object
	now int64
}

func (w world) copied() world { return world{slices.Clone(w.l), w.now} }

func (w world) is(other world) bool { return slices.Equal(w.l, other.l) && w.now == other.now }

// with is the world with another object in a place.
func (w world) with(oid int, o api.Object) world {
	w = w.copied()
	w.l[oid] = o
	return w
}

func isOfObject(k api.Key) bool { return k.Kind >= 2 && k.Kind <= 7 }

// counts tells whether a key counts that may be in the world.
func (w world) counts(k api.Key) bool {
	if !isOfObject(k) {
		return true
	}
	o := w.l[k.Oid]
	if o.Count != k.Count {
		return false
	}
	if k.Kind == 3 {
		return o.Kind == aPage
	}
	return o.Kind == aNode && (k.Kind != 7 || o.Calls == k.Call)
}

// asItCounts tells a key that does not count as the void key.
func (w world) asItCounts(k api.Key) api.Key {
	if w.counts(k) {
		return k
	}
	return api.Key{}
}

func (w world) state(oid int) api.ProcState {
	if w.l[oid].Kind != aNode {
		return isNone
	}
	switch w.l[oid].Slots[2] {
	case number(0):
		return available
	case number(1):
		return runs
	case number(2):
		return waits
	}
	return isNone
}

func (w world) running() (l []int) {
	for oid := range w.l {
		if w.state(oid) == runs {
			l = append(l, oid)
		}
	}
	return l
}

// hand hands a message over to a process; what does not count in it is void by now.
func (w world) hand(oid int, m api.Message, answer api.Key) {
	o := &w.l[oid]
	o.Slots[2], o.Slots[3] = number(1), number(m.Code)
	o.Slots[12], o.Slots[13], o.Slots[14], o.Slots[15] = m.Keys[0], m.Keys[1], m.Keys[2], answer
	o.Bytes = bytesOf(m.Data)
}

// bytesOf are the bytes of a process that was told a text last.
func bytesOf(data string) (b [64]byte) {
	b[0] = byte(len(data))
	for i := range len(data) {
		b[i+1] = data[i]
	}
	return b
}

// mayDo tells whether a step may be.
func (w world) mayDo(op api.Op) bool {
	if op.Kind == 2 {
		return op.Value >= 0 && op.Value <= maxTick && w.now+op.Value <= maxTime
	}
	if op.Kind != 1 || op.Mode != calls && op.Mode != sends && op.Mode != returns {
		return false
	}
	for _, r := range op.Sends {
		if r < -1 || r > 11 {
			return false
		}
	}
	return len(op.Data) <= maxData && op.Reg >= 0 && op.Reg <= 11
}

// chooses tells which of n a choice is.
func chooses(choice, n int) int {
	return int(new(big.Int).Mod(big.NewInt(int64(choice)), big.NewInt(int64(n))).Int64())
}

// step is what the document answers; the world is then as it should be behind the step.
func (w *world) step(op api.Op) (api.Done, api.Errno) {
	if len(w.l) == 0 {
		return api.Done{}, errNil
	}
	if !w.mayDo(op) {
		return api.Done{}, errArg
	}
	if op.Kind == 2 {
		w.now += op.Value
		return api.Done{Out: ticked}, ok
	}
	l := w.running()
	if len(l) == 0 {
		return api.Done{Out: idle}, ok
	}
	who := l[chooses(op.Proc, len(l))]
	k, m := w.asItCounts(w.l[who].Slots[4+op.Reg]), w.message(who, op)
	if k.Kind != 6 && k.Kind != 7 {
		return w.tell(who, k, op.Mode, m), ok
	}
	if e := w.refusal(who, k, op.Mode); e != ok {
		return api.Done{Out: refused, Proc: who, Err: e}, ok
	}
	w.invoke(who, k, op.Mode, m)
	return api.Done{Out: handed, Proc: who}, ok
}

func (w world) message(who int, op api.Op) api.Message {
	m := api.Message{Code: op.Code, Data: op.Data}
	for i, r := range op.Sends {
		if r >= 0 {
			m.Keys[i] = w.asItCounts(w.l[who].Slots[4+r])
		}
	}
	if op.Numbered {
		m.Keys[2] = number(op.Value)
	}
	return m
}

// refusal tells what refuses a start or a resume key that counts.
func (w world) refusal(who int, k api.Key, mode api.Mode) api.Errno {
	st := w.state(k.Oid)
	itself := mode == returns && k.Oid == who
	switch {
	case st == isNone:
		return errGone
	case k.Kind == 6 && st != available && !itself, k.Kind == 7 && st != waits:
		return errBusy
	case k.Kind == 7 && w.l[k.Oid].Calls == maxCount, mode == calls && w.l[who].Calls == maxCount:
		return errCalls
	}
	return ok
}

func (w world) invoke(who int, k api.Key, mode api.Mode, m api.Message) {
	var answer api.Key
	switch mode {
	case calls:
		answer = resume(who, w.l[who].Count, w.l[who].Calls)
		w.l[who].Slots[2] = number(2)
	case returns:
		w.l[who].Slots[2] = number(0)
	}
	if k.Kind == 7 {
		w.l[k.Oid].Calls++
	}
	w.hand(k.Oid, m, answer)
}

// tell is what comes of an order.
func (w world) tell(who int, k api.Key, mode api.Mode, m api.Message) api.Done {
	d := api.Done{Out: told, Proc: who}
	d.Answer, d.Wants = w.order(k, m)
	if mode == calls && w.state(who) == runs {
		w.hand(who, d.Answer, api.Key{})
	}
	if mode == returns && w.state(who) == runs {
		w.l[who].Slots[2] = number(0)
	}
	return d
}

func (w world) order(k api.Key, m api.Message) (api.Message, bool) {
	s, e := objects.Of(w.l...)
	if e != ok {
		panic(fmt.Sprint("no such store: ", e))
	}
	answer, wants, e := orders.Do(s, w.now, k, m)
	if e != ok {
		panic(fmt.Sprint("no such order: ", k, m, e))
	}
	for oid, o := range s.All() {
		w.l[oid] = o
	}
	return answer, wants
}

// Keys, messages and steps to try

func key(kind api.KeyKind, oid int, count int64) api.Key {
	return api.Key{Kind: kind, Oid: oid, Count: count}
}

func bare(kind api.KeyKind) api.Key { return api.Key{Kind: kind} }

func number(n int64) api.Key { return api.Key{Kind: 1, Value: n} }

func nodeKey(oid int, count int64) api.Key { return key(2, oid, count) }

func pageKey(oid int, count int64) api.Key { return key(3, oid, count) }

func bank(oid int, count int64) api.Key { return key(4, oid, count) }

func proc(oid int, count int64) api.Key { return key(5, oid, count) }

func start(oid int, count, badge int64) api.Key {
	return api.Key{Kind: 6, Oid: oid, Count: count, Value: badge}
}

func resume(oid int, count, call int64) api.Key {
	return api.Key{Kind: 7, Oid: oid, Count: count, Call: call}
}

func discrim() api.Key { return bare(8) }

func clock() api.Key { return bare(9) }

func check() api.Key { return bare(10) }

// with is a key with Rights.
func with(k api.Key, r api.Rights) api.Key {
	k.Rights = r
	return k
}

// naming are keys of each kind that names an object, of that Oid and Count; resume keys with that Call.
func naming(oid int, count, call int64) []api.Key {
	return []api.Key{
		nodeKey(oid, count), with(nodeKey(oid, count), 3), with(nodeKey(oid, count), 7), pageKey(oid, count), with(pageKey(oid, count), 1), bank(oid, count), proc(oid, count), start(oid, count, 0), start(oid, count, -9), resume(oid, count, call),
	}
}

func code(e api.Errno) api.Message { return api.Message{Code: int64(e)} }

func first(k api.Key) api.Message { return api.Message{Keys: [3]api.Key{k}} }

func third(n int64) api.Message { return api.Message{Keys: [3]api.Key{2: number(n)}} }

func tick(n int64) api.Op { return api.Op{Kind: 2, Value: n} }

// by is an invocation by a register, without keys.
func by(reg int, mode api.Mode, code int64) api.Op {
	return api.Op{Kind: 1, Reg: reg, Mode: mode, Code: code, Sends: [3]int{-1, -1, -1}}
}

// op is a step, and what is said of it besides.
type op struct{ api.Op }

func (x op) numbered(n int64) op {
	x.Numbered, x.Value = true, n
	return x
}

func (x op) sending(l ...int) op {
	copy(x.Sends[:], l)
	return x
}

func (x op) saying(data string) op {
	x.Data = data
	return x
}

func (x op) of(proc int) op {
	x.Proc = proc
	return x
}

// tells is what was done where an order was told.
func tells(who int, m api.Message) api.Done {
	return api.Done{Out: told, Proc: who, Answer: m}
}

func rising(n int, from byte) string {
	b := make([]byte, n)
	for i := range b {
		b[i] = from + byte(i)
	}
	return string(b)
}

// ints are numbers that are small, or would be, taken modulo what less bits hold.
func ints() []int {
	l := []int{math.MaxInt, math.MaxInt - 1, math.MinInt, math.MinInt + 1}
	for n := -14; n <= 14; n++ {
		l = append(l, n, 256+n, 1<<16+n, 1<<32+n, -1<<32+n)
	}
	return l
}

func wrongRegisters() []int {
	return slices.DeleteFunc(ints(), func(n int) bool { return n >= 0 && n <= 11 })
}

func wrongModes() []api.Mode {
	return []api.Mode{0, -1, -2, -3, 4, 5, 6, 7, 255, 256, 257, 258, 259, 1<<32 + 1, 1<<32 + 2, 1<<32 + 3, -1<<32 + 1, math.MaxInt, math.MinInt, math.MinInt + 1, math.MinInt + 3}
}

func wrongKinds() []api.OpKind {
	return []api.OpKind{0, -1, -2, 3, 4, 5, 255, 256, 257, 258, 1<<32 + 1, 1<<32 + 2, -1<<32 + 1, -1<<32 + 2, math.MaxInt, math.MinInt, math.MinInt + 1, math.MinInt + 2}
}

func wrongTicks() []int64 {
	return []int64{-1, -2, -maxTick, maxTick + 1, maxTick + 2, 2 * maxTick, maxTime, maxTime + 1, math.MaxInt64, math.MaxInt64 - 1, math.MinInt64, math.MinInt64 + 1, math.MinInt64 + maxTick, 1 << 62, -1 << 62}
}

func wrongTimes() []int64 {
	return []int64{-1, -2, -maxTime, maxTime + 1, maxTime + 2, 2*maxTime - 1, math.MaxInt64, math.MinInt64, math.MinInt64 + 1}
}

func longData() (l []string) {
	for _, n := range []int{33, 34, 63, 64, 65, 255, 256, 257, 256 + 32, 1 << 16, 1<<16 + 1} {
		l = append(l, rising(n, 1), strings.Repeat("\x00", n))
	}
	return append(l, strings.Repeat("\u00e4", 17), strings.Repeat("\u20ac", 11), strings.Repeat("\xff", 33)) // of fewer runes than bytes, some
}

func values() []int64 {
	return []int64{0, 1, -1, 5, 255, 256, 1 << 31, 1 << 32, -1 << 32, maxTick, maxTick + 1, math.MaxInt64, math.MinInt64}
}

// Machines to try

// full is an object with something in each part that its kind may have; no process.
func full(kind api.ObjKind, count, calls int64) api.Object {
	o := api.Object{Kind: kind, Count: count, Calls: calls}
	copy(o.Bytes[:], rising(64, byte(3*count+40)))
	if kind == aPage {
		return o
	}
	for slot := range o.Slots {
		o.Slots[slot] = []api.Key{number(int64(slot) - 30), start(0, 0, int64(slot)-8), with(nodeKey(0, count), 7), discrim(), resume(0, 1, calls)}[slot%5]
	}
	return o
}

// process is a node with something everywhere, a state, and these keys in its registers from 0 on.
func process(count, calls int64, st api.ProcState, registers ...api.Key) api.Object {
	o := full(aNode, count, calls)
	o.Slots[2] = number(int64(st))
	copy(o.Slots[4:], registers)
	return o
}

// bareProcess is one with nothing but that.
func bareProcess(count, calls int64, st api.ProcState, registers ...api.Key) api.Object {
	o := api.Object{Kind: aNode, Count: count, Calls: calls}
	o.Slots[2] = number(int64(st))
	copy(o.Slots[4:], registers)
	return o
}

func none(kind api.ObjKind, count int64) api.Object { return api.Object{Kind: kind, Count: count} }

func bankOf(count, from, to int64) api.Object {
	o := full(aNode, count, 1)
	o.Slots[0], o.Slots[1] = number(from), number(to)
	return o
}

// plain is a world of so many objects, of which all behind these are free.
func plain(n int, l ...api.Object) world { return world{append(l, make([]api.Object, n-len(l))...), 3} }

// town are objects of all kinds; 0, 1 and 3 run, and 3 and 6 have used up their Calls.
func town() world {
	return world{[]api.Object{
		0:  process(3, 2, runs, start(4, 2, 7), resume(5, 4, 9), bank(2, 4), discrim(), clock(), check(), proc(0, 3), nodeKey(7, 6), pageKey(8, 1), number(77), start(4, 1, 7), api.Key{}),
		1:  process(5, 0, runs, start(7, 6, 1), resume(0, 3, 2), start(0, 3, 4), start(1, 5, 5), resume(6, 1, maxCount), resume(5, 4, 8), start(5, 4, 0), resume(4, 2, 0), with(nodeKey(7, 6), 1), number(2), nodeKey(0, 2), clock()),
		2:  bankOf(4, 9, 15),
		3:  process(1, maxCount, runs, start(4, 2, -1), resume(5, 4, 9), resume(6, 1, maxCount), start(3, 1, 6), start(1, 5, 0), number(-4), nodeKey(3, 1), proc(3, 1), resume(7, 6, 1), start(12, 2, 0), check(), pageKey(8, 1)),
		4:  process(2, 0, available),
		5:  process(4, 9, waits),
		6:  process(1, maxCount, waits),
		7:  full(aNode, 6, 1),
		8:  full(aPage, 1, 0),
		9:  none(free, 0),
		10: none(free, maxCount),
		11: full(aPage, 3, 0),
		12: full(aNode, 2, 3),
		13: none(retired, maxCount),
		14: none(free, maxCount-1),
		15: none(free, 7),
	}, 1000}
}

// pair is a machine, and beside it what it should have.
type pair struct {
	t    *testing.T
	m    *machine.Machine
	want world
	gone []api.Key // keys that counted once, and then no more
}

func storeOf(t *testing.T, w world) *objects.Store {
	t.Helper()
	s, e := objects.Of(w.l...)
	if e != ok {
		t.Fatalf("no such store: %v", e)
	}
	return s
}

func pairOf(t *testing.T, w world) *pair {
	t.Helper()
	m, e := machine.Of(storeOf(t, w), w.now)
	if e != ok || m == nil {
		t.Fatalf("no such machine: %v", e)
	}
	return &pair{t: t, m: m, want: w.copied()}
}

// booted is one that was booted, and what the document says that it has.
func booted(t *testing.T, n int) *pair {
	t.Helper()
	m, e := machine.Boot(n)
	if e != ok || m == nil {
		t.Fatalf("not booted: %v", e)
	}
	w := world{l: make([]api.Object, n)}
	w.l[0] = bareProcess(1, 0, runs, bank(1, 1), discrim(), clock(), check(), proc(0, 1))
	w.l[1] = api.Object{Kind: aNode, Count: 1, Slots: [16]api.Key{number(2), number(int64(n - 1))}}
	p := &pair{t: t, m: m, want: w}
	p.holds("booted")
	return p
}

// holds asks that the machine has what it should, part by part and byte by byte.
func (p *pair) holds(what any) {
	p.t.Helper()
	s := p.m.Store()
	if s.Size() != len(p.want.l) || p.m.Now() != p.want.now {
		p.t.Fatalf("%v: %d objects at %d, want %d at %d", what, s.Size(), p.m.Now(), len(p.want.l), p.want.now)
	}
	for oid, o := range s.All() {
		if o != p.want.l[oid] {
			p.t.Fatalf("%v: the object %d is %v, want %v", what, oid, o, p.want.l[oid])
		}
	}
}

// does asks that a step answers as the document does, and that the machine has what it should behind it.
func (p *pair) does(x api.Op) (api.Done, api.Errno) {
	p.t.Helper()
	was := p.want.copied()
	want, wantE := p.want.step(x)
	d, e := p.m.Step(x)
	if d != want || e != wantE {
		p.t.Fatalf("%v: %v, %v, want %v, %v", x, d, e, want, wantE)
	}
	p.holds(x)
	p.keeps(x, was, d, e)
	return d, e
}

// keeps asks what P15.3 and P15.4 say of a step, and that what has no meaning in what was done is zero.
func (p *pair) keeps(x api.Op, was world, d api.Done, e api.Errno) {
	p.t.Helper()
	means := api.Done{Out: d.Out}
	switch d.Out {
	case handed:
		means.Proc = d.Proc
	case refused:
		means.Proc, means.Err = d.Proc, d.Err
	case told:
		means = d
		means.Err = 0
	}
	if d != means || (d.Err != 0) != (d.Out == refused) || (d.Out == 0) != (e != ok) {
		p.t.Fatalf("%v: %v, %v", x, d, e)
	}
	if (e != ok || d.Out == idle || d.Out == refused) && !p.want.is(was) {
		p.t.Fatalf("%v: %v, %v, and something has changed", x, d, e)
	}
	for oid, o := range p.want.l {
		p.rescinds(x, oid, was.l[oid], o)
	}
	for _, k := range p.gone {
		if p.want.counts(k) {
			p.t.Fatalf("%v: %v counts again", x, k)
		}
	}
}

// rescinds asks that no Count is less than it was, and notes the keys that count no more.
func (p *pair) rescinds(x api.Op, oid int, was, o api.Object) {
	p.t.Helper()
	if o.Count < was.Count || o.Count == was.Count && o.Kind != was.Kind && o.Kind != free && o.Kind != retired {
		p.t.Fatalf("%v: the object %d was %v, is %v", x, oid, was, o)
	}
	if o.Count == was.Count && o.Kind == was.Kind && o.Calls == was.Calls {
		return
	}
	if was.Kind == aPage {
		p.gone = append(p.gone, pageKey(oid, was.Count))
	}
	if was.Kind == aNode {
		p.gone = append(p.gone, resume(oid, was.Count, was.Calls))
	}
	if was.Kind == aNode && (o.Count != was.Count || o.Kind != was.Kind) {
		p.gone = append(p.gone, nodeKey(oid, was.Count), bank(oid, was.Count), proc(oid, was.Count), start(oid, was.Count, 1))
	}
}

// staysGone asks the machine's store itself for the keys that count no more.
func (p *pair) staysGone() {
	p.t.Helper()
	s := p.m.Store()
	for _, k := range p.gone {
		if _, counts := s.Named(k); counts || s.Prepared(k) != (api.Key{}) {
			p.t.Fatalf("%v counts again", k)
		}
	}
}

// is asks for just that answer, too.
func (p *pair) is(x op, want api.Done) {
	p.t.Helper()
	if d, e := p.does(x.Op); d != want || e != ok {
		p.t.Fatalf("%v: %v, %v, want %v", x, d, e, want)
	}
}

// stays asks for just that answer, and that nothing has changed.
func (p *pair) stays(x op, want api.Done) {
	p.t.Helper()
	was := p.want.copied()
	p.is(x, want)
	p.has(was)
}

// mayNot asks that a step may not be, and changes nothing.
func (p *pair) mayNot(x api.Op) {
	p.t.Helper()
	was := p.want.copied()
	if d, e := p.does(x); d != (api.Done{}) || e != errArg {
		p.t.Fatalf("%v: %v, %v", x, d, e)
	}
	p.has(was)
}

// has asks for just that.
func (p *pair) has(w world) {
	p.t.Helper()
	if !p.want.is(w) {
		p.t.Fatalf("there is %v, want %v", p.want, w)
	}
	p.holds("the machine")
}

// register asks for just that key in a register.
func (p *pair) register(oid, n int, want api.Key) {
	p.t.Helper()
	o, e := p.m.Store().Get(oid)
	if e != ok || o.Slots[4+n] != want {
		p.t.Fatalf("the register %d of %d is %v, want %v", n, oid, o.Slots[4+n], want)
	}
}

// runAre asks for just those processes that run.
func (p *pair) runAre(l ...int) {
	p.t.Helper()
	if now := p.want.running(); !slices.Equal(now, l) {
		p.t.Fatalf("%v run, want %v", now, l)
	}
	p.holds("who runs")
}

// The chapter's examples, and the whole's

func TestTheChaptersExamples(t *testing.T) {
	p := booted(t, 6)
	p.is(op{by(0, calls, 1)}, tells(0, first(nodeKey(2, 1))))
	p.register(0, 8, nodeKey(2, 1))
	p.is(op{by(8, calls, 6)}, tells(0, first(proc(2, 1))))
	p.is(op{by(8, calls, 3)}.numbered(7), tells(0, first(start(2, 1, 7))))
	p.stays(op{by(8, sends, 0)}, api.Done{Out: refused, Err: errGone})
}

// kept has a machine that was booted make a node, and keep its full key in register 5.
func kept(t *testing.T) *pair {
	t.Helper()
	p := booted(t, 6)
	p.is(op{by(0, calls, 1)}, tells(0, first(nodeKey(2, 1))))
	p.is(op{by(4, calls, 2)}.sending(8).numbered(5), tells(0, first(api.Key{})))
	p.register(0, 5, nodeKey(2, 1))
	return p
}

func TestTheWholesSecondAndThirdExample(t *testing.T) {
	p := kept(t)
	p.is(op{by(5, calls, 5)}.numbered(1), tells(0, first(with(nodeKey(2, 1), 1))))
	p.is(op{by(8, sends, 3)}, tells(0, code(errRight)))
	p.is(op{by(5, sends, 3)}, tells(0, api.Message{}))
	p.is(op{by(0, sends, 3)}.sending(8), tells(0, api.Message{}))
	p.stays(op{by(5, sends, 0)}, tells(0, code(errKey)))
	p.stays(op{by(8, sends, 0)}, tells(0, code(errKey)))
	p.is(op{by(0, calls, 1)}, tells(0, first(nodeKey(2, 2))))
	p.stays(op{by(5, sends, 0)}, tells(0, code(errKey)))
	p.stays(op{by(8, sends, 0)}, tells(0, third(2)))
	p.staysGone()
}

func TestTheWholesFourthExample(t *testing.T) {
	p := kept(t)
	p.is(op{by(5, sends, 2)}.sending(0).numbered(9), tells(0, first(api.Key{})))
	p.is(op{by(5, sends, 2)}.sending(5).numbered(10), tells(0, first(api.Key{})))
	p.is(op{by(5, calls, 5)}.numbered(2), tells(0, first(with(nodeKey(2, 1), 2))))
	p.stays(op{by(8, sends, 1)}.numbered(9), tells(0, first(api.Key{})))
	p.stays(op{by(8, sends, 1)}.numbered(10), tells(0, first(with(nodeKey(2, 1), 3))))
}

// A process calls another one, that was made by steps alone, is answered, and calls no more by a copy of the key that was used.
func TestTheWholesFifthExample(t *testing.T) {
	p := kept(t)
	p.is(op{by(5, calls, 6)}, tells(0, first(proc(2, 1))))
	p.is(op{by(8, sends, 5)}.numbered(0), tells(0, api.Message{}))
	p.is(op{by(8, calls, 3)}.numbered(7), tells(0, first(start(2, 1, 7))))
	p.is(op{by(8, calls, 5)}.saying("hi").sending(5, -1, 0), api.Done{Out: handed})
	p.runAre(2)
	p.register(2, 8, nodeKey(2, 1))
	p.register(2, 10, bank(1, 1))
	p.register(2, 11, resume(0, 1, 0))
	p.is(op{by(8, calls, 2)}.sending(11).numbered(4), tells(2, first(api.Key{}))) // a copy into the register 0, by its own node's key
	p.register(2, 0, resume(0, 1, 0))
	p.register(2, 11, api.Key{})
	p.is(op{by(0, sends, 9)}.saying("answer").sending(0), api.Done{Out: handed, Proc: 2})
	p.runAre(0, 2)
	p.register(0, 8, resume(0, 1, 0))
	p.stays(op{by(0, sends, 9)}.of(1), tells(2, code(errKey)))
	p.stays(op{by(8, sends, 9)}, tells(0, code(errKey)))
	p.staysGone()
	if len(p.gone) == 0 {
		t.Errorf("no key was used")
	}
}

// What is no machine, and no store

func nobody() map[string]*machine.Machine {
	return map[string]*machine.Machine{"nil": nil, "zero": {}}
}

func TestNoMachine(t *testing.T) {
	for what, m := range nobody() {
		for _, x := range []api.Op{{}, tick(0), tick(5), tick(-1), by(0, calls, 1), by(-1, 7, 1), by(12, calls, 0), {Kind: 3}, {Kind: -1}, op{by(0, sends, 0)}.sending(-2).Op, op{by(0, returns, 0)}.saying(rising(33, 0)).Op} {
			if d, e := m.Step(x); d != (api.Done{}) || e != errNil {
				t.Fatalf("a %s machine: %v: %v, %v", what, x, d, e)
			}
			for _, l := range [][]api.Op{nil, {}, {x}, {x, x}, {x, tick(1)}} {
				if done, e := m.Run(l...); len(done) != 0 || e != errNil {
					t.Fatalf("a %s machine: %v: %v, %v", what, l, done, e)
				}
			}
		}
		if s := m.Store(); s != nil {
			t.Errorf("a %s machine has a store", what)
		}
		if n := m.Now(); n != 0 {
			t.Errorf("a %s machine: it is %d", what, n)
		}
		if other := m.Copy(); other != nil {
			t.Errorf("a %s machine: a copy is none", what)
		}
	}
}

func TestNoStore(t *testing.T) {
	for what, s := range map[string]*objects.Store{"nil": nil, "zero": {}} {
		for _, now := range append(wrongTimes(), 0, 1, 1000, maxTime) {
			if m, e := machine.Of(s, now); m != nil || e != errNil {
				t.Errorf("of a %s store at %d: %v, %v", what, now, m, e)
			}
		}
	}
}

// Boot and Of

func TestBootOfEachNumber(t *testing.T) {
	for n := -70; n <= 140; n++ {
		if n < 4 || n > 64 {
			notBooted(t, n)
		} else {
			booted(t, n)
		}
	}
	for _, n := range append(ints(), 1<<32+6, 1<<32+64, -1<<32+6, 256+6, math.MinInt+6) {
		if n < 4 || n > 64 {
			notBooted(t, n)
		}
	}
}

func notBooted(t *testing.T, n int) {
	t.Helper()
	if m, e := machine.Boot(n); m != nil || e != errArg {
		t.Fatalf("Boot of %d: %v, %v", n, m, e)
	}
}

// What is booted, by hand: each part of the least one.
func TestWhatIsBooted(t *testing.T) {
	m, e := machine.Boot(4)
	if e != ok || m.Now() != 0 || m.Store().Size() != 4 {
		t.Fatalf("%v, %d objects at %d", e, m.Store().Size(), m.Now())
	}
	l := [4]api.Object{0: {Kind: api.ObjNode, Count: 1}, 1: {Kind: api.ObjNode, Count: 1}}
	l[0].Slots[2] = api.Key{Kind: api.KeyNumber, Value: 1}
	l[0].Slots[4] = api.Key{Kind: api.KeyBank, Oid: 1, Count: 1}
	l[0].Slots[5] = api.Key{Kind: api.KeyDiscrim}
	l[0].Slots[6] = api.Key{Kind: api.KeyClock}
	l[0].Slots[7] = api.Key{Kind: api.KeyCheck}
	l[0].Slots[8] = api.Key{Kind: api.KeyProc, Oid: 0, Count: 1}
	l[1].Slots[0] = api.Key{Kind: api.KeyNumber, Value: 2}
	l[1].Slots[1] = api.Key{Kind: api.KeyNumber, Value: 3}
	for oid, o := range m.Store().All() {
		if o != l[oid] {
			t.Errorf("the object %d is %v, want %v", oid, o, l[oid])
		}
	}
}

// All that a machine that was booted has may be used: all but the first two objects are its bank's.
func TestABootedMachineMakesAllOfItsObjects(t *testing.T) {
	for _, n := range []int{4, 5, 6, 33, 63, 64} {
		p := booted(t, n)
		for oid := 2; oid < n; oid++ {
			p.is(op{by(0, sends, int64(1+oid%2))}, tells(0, first(key(api.KeyKind(2+oid%2), oid, 1))))
		}
		p.stays(op{by(0, sends, 1)}, tells(0, code(221)))
		p.is(op{by(0, sends, 6)}, tells(0, third(int64(n-2))))
		p.is(op{by(2, sends, 1)}, tells(0, third(0)))
		p.is(op{by(1, sends, 1)}.sending(4), tells(0, third(5)))
		p.is(op{by(4, sends, 4)}, tells(0, third(1)))
		p.is(op{by(3, sends, 1)}, api.Done{Out: told, Wants: true})
	}
}

func TestMachinesThatWereBootedGoOnApart(t *testing.T) {
	a, b := booted(t, 6), booted(t, 6)
	a.is(op{by(0, calls, 1)}, tells(0, first(nodeKey(2, 1))))
	a.is(op{tick(4)}, api.Done{Out: ticked})
	b.holds("another one took steps")
	if machine.Same(a.m, b.m) {
		t.Error("they are the same")
	}
}

func TestOfEachSize(t *testing.T) {
	for n := 1; n <= 64; n++ {
		l := make([]api.Object, n)
		l[n-1] = bareProcess(1, 0, runs, number(9))
		s := storeOf(t, world{l: l})
		for _, now := range append(wrongTimes(), 0, 1, 5, maxTime-1, maxTime) {
			m, e := machine.Of(s, now)
			if n < 4 || now < 0 || now > maxTime {
				if m != nil || e != errArg {
					t.Fatalf("of %d objects at %d: %v, %v", n, now, m, e)
				}
				continue
			}
			if e != ok {
				t.Fatalf("of %d objects at %d: %v", n, now, e)
			}
			p := &pair{t: t, m: m, want: world{l, now}}
			p.holds("of a store")
			p.stays(op{by(0, sends, 1)}, tells(n-1, third(9)))
		}
	}
}

// No object makes a store one of which no machine is.
func TestOfEachObject(t *testing.T) {
	for _, o := range []api.Object{{}, none(free, 3), none(free, maxCount), none(retired, 0), none(retired, maxCount), full(aPage, 1, 0), full(aNode, 0, 0), process(1, 1, runs), process(maxCount, maxCount, waits)} {
		p := pairOf(t, world{slices.Repeat([]api.Object{o}, 4), 8})
		p.holds(o)
		p.does(by(4, calls, 0))
		p.does(tick(2))
	}
}

func TestOfTakesACopy(t *testing.T) {
	w := town()
	s := storeOf(t, w)
	m, _ := machine.Of(s, w.now)
	other, _ := machine.Of(s, w.now)
	p, q := &pair{t: t, m: m, want: w.copied()}, &pair{t: t, m: other, want: w.copied()}
	s.Put(0, full(aPage, 9, 0))
	s.Put(15, none(free, 90))
	p.holds("the store that was handed in was changed")
	p.is(op{by(0, sends, 1)}, api.Done{Out: handed})
	q.holds("another one of that store took a step")
	if o, _ := s.Get(4); o != w.l[4] {
		t.Errorf("the store that was handed in has %v", o)
	}
	if o, _ := s.Get(0); o != full(aPage, 9, 0) || s.Size() != 16 {
		t.Errorf("the store that was handed in has %v", o)
	}
}

// Steps that may not be

func TestKindsThatThereAreNot(t *testing.T) {
	p := pairOf(t, town())
	for _, kind := range wrongKinds() {
		for _, x := range []api.Op{{}, tick(0), tick(3), by(0, calls, 1), by(5, returns, 1), op{by(4, sends, 1)}.numbered(1).Op} {
			x.Kind = kind
			p.mayNot(x)
		}
	}
}

func TestTicks(t *testing.T) {
	for _, now := range []int64{0, 1, 1000, maxTick, maxTime - maxTick - 1, maxTime - maxTick, maxTime - maxTick + 1, maxTime - 5, maxTime - 1, maxTime} {
		w := town()
		w.now = now
		for _, n := range wrongTicks() {
			pairOf(t, w).mayNot(tick(n))
		}
		for _, n := range []int64{0, 1, 2, 255, 256, 1 << 31, 1 << 32, maxTick - 1, maxTick, maxTime - now - 1, maxTime - now, maxTime - now + 1} {
			if n < 0 || n > maxTick {
				continue
			}
			p, behind := pairOf(t, w), w.copied()
			if n > maxTime-now {
				p.mayNot(tick(n))
				continue
			}
			p.is(op{tick(n)}, api.Done{Out: ticked})
			behind.now = now + n
			p.has(behind)
			p.is(op{by(4, sends, 1)}, tells(0, third(now+n)))
		}
	}
}

// By ticks of the longest kind the last time is come to, and none goes on from there but that of 0.
func TestTheLastTime(t *testing.T) {
	p := pairOf(t, world{town().l, maxTime - 3*maxTick})
	for range 3 {
		p.is(op{tick(maxTick)}, api.Done{Out: ticked})
	}
	for _, n := range []int64{1, 2, maxTick} {
		p.mayNot(tick(n))
	}
	p.is(op{tick(0)}, api.Done{Out: ticked})
	p.is(op{by(4, calls, 1)}, tells(0, third(maxTime)))
	if n := p.m.Now(); n != maxTime {
		t.Errorf("it is %d", n)
	}
}

// wrongInvocations are invocations of which each has one thing that may not be; those behind them have several.
func wrongInvocations() (l []api.Op) {
	for _, base := range []api.Op{by(0, calls, 1), by(2, sends, 1), by(9, returns, 1), op{by(11, calls, 0)}.sending(0, 11, 5).numbered(4).saying("hi").Op} {
		for _, mode := range wrongModes() {
			x := base
			x.Mode = mode
			l = append(l, x)
		}
		for _, data := range longData() {
			l = append(l, op{base}.saying(data).Op)
		}
		for _, r := range wrongRegisters() {
			x := base
			x.Reg = r
			l = append(l, x)
			for at := range 3 {
				x := base
				if x.Sends[at] = r; r != -1 {
					l = append(l, x)
				}
			}
		}
	}
	return append(l, api.Op{Kind: 1}, op{by(12, 0, 1)}.sending(-2, 12, 13).saying(rising(33, 1)).Op, op{by(-1, 4, 1)}.numbered(-1).Op)
}

func TestInvocationsThatMayNotBe(t *testing.T) {
	idler := town()
	for oid := range idler.l {
		if idler.state(oid) == runs {
			idler.l[oid].Slots[2] = number(2)
		}
	}
	p, q := pairOf(t, town()), pairOf(t, idler) // also where none runs
	for _, x := range wrongInvocations() {
		p.mayNot(x)
		q.mayNot(x)
		p.mayNot(op{x}.of(-1).Op)
	}
	q.stays(op{by(0, calls, 1)}, api.Done{Out: idle})
}

// The third key's register must be there, also where a number stands in its place.
func TestTheThirdRegisterIsAskedForBesideANumber(t *testing.T) {
	p := pairOf(t, town())
	for _, r := range wrongRegisters() {
		if r != -1 {
			p.mayNot(op{by(9, sends, 0)}.sending(-1, -1, r).numbered(1).Op)
		}
	}
	for r := -1; r <= 11; r++ {
		p.stays(op{by(9, sends, 1)}.sending(-1, -1, r).numbered(1), tells(0, third(77)))
	}
}

// What a tick has no use for is not looked at, nor the Value of an invocation that is not Numbered.
func TestWhatAStepHasNoUseFor(t *testing.T) {
	p := pairOf(t, town())
	for _, x := range wrongInvocations() {
		x.Kind, x.Value = 2, 1
		p.is(op{x}, api.Done{Out: ticked})
		x.Proc, x.Numbered, x.Code = math.MinInt, true, math.MaxInt64
		p.is(op{x}, api.Done{Out: ticked})
	}
	for _, v := range append(slices.Concat(values(), wrongTicks()), maxTime) {
		for reg := range 12 {
			p, q := pairOf(t, town()), pairOf(t, town())
			x := op{by(reg, calls, 1)}.sending(7, 3, 4)
			d, e := q.does(x.Op)
			if x.Value = v; e != ok {
				t.Fatalf("%v: %v", x, e)
			}
			p.is(x, d)
			p.has(q.want)
		}
	}
}

// Who invokes

func TestNoneRuns(t *testing.T) {
	for _, l := range [][]api.Object{
		{full(aNode, 1, 1), full(aPage, 1, 0), none(free, 1), none(retired, 1)},
		{process(1, 1, waits, number(1)), process(1, 1, available, check()), bareProcess(1, 1, waits), full(aNode, 1, 1)},
		make([]api.Object, 4),
	} {
		p := pairOf(t, world{l, 7})
		for reg := range 12 {
			for _, mode := range modes() {
				for _, proc := range []int{0, 1, -1, 5, math.MaxInt, math.MinInt} {
					p.stays(op{by(reg, mode, 1)}.of(proc).sending(reg, 0, 3).numbered(5).saying("data"), api.Done{Out: idle})
				}
			}
		}
		p.is(op{tick(5)}, api.Done{Out: ticked})
	}
}

// With n that run, each has its own number in register 3.
func TestWhichOneIsChosen(t *testing.T) {
	for n := 1; n <= 20; n++ {
		var l []api.Object
		var who []int
		for i := range n {
			l = append(l, process(1, 1, waits), full(aNode, 1, 1))
			who = append(who, len(l))
			l = append(l, bareProcess(1, 1, runs, api.Key{}, api.Key{}, api.Key{}, number(int64(100+i))))
		}
		p := pairOf(t, plain(64, l...))
		for _, choice := range append(ints(), n-1, n, n+1, 2*n, 2*n-1, -n, -n-1, -2*n, 63, 64, 65) {
			i := chooses(choice, n)
			p.stays(op{by(3, sends, 1)}.of(choice), tells(who[i], third(int64(100+i))))
		}
	}
}

func TestAChoiceByHand(t *testing.T) {
	p := pairOf(t, town()) // 0, 1 and 3 run
	for choice, who := range map[int]int{0: 0, 1: 1, 2: 3, 3: 0, 4: 1, 5: 3, 6: 0, -1: 3, -2: 1, -3: 0, -4: 3, -6: 0, -7: 3, math.MaxInt64: 1, math.MinInt64: 1, math.MinInt64 + 1: 3, math.MinInt64 + 2: 0} {
		n := map[int]int64{0: 77, 1: 2}[who]
		x := op{by(9, sends, 1)}.of(choice)
		if who == 3 {
			x.Reg, n = 5, -4
		}
		p.stays(x, tells(who, third(n)))
	}
}

// Who runs is asked at each step: behind a call that is another one.
func TestWhoIsChosenBehindACall(t *testing.T) {
	p := pairOf(t, plain(4, bareProcess(1, 0, runs, start(1, 1, 0)), bareProcess(1, 0, available), bareProcess(1, 0, runs, number(5))))
	p.is(op{by(0, calls, 1)}.of(2), api.Done{Out: handed})
	p.runAre(1, 2)
	p.stays(op{by(0, sends, 1)}.of(1), tells(2, third(5)))
	p.is(op{by(11, returns, 1)}.of(2), api.Done{Out: handed, Proc: 1})
	p.runAre(0, 2)
}

// By which register

func TestEachRegister(t *testing.T) {
	o := bareProcess(1, 0, runs)
	for reg := range 12 {
		o.Slots[4+reg] = number(int64(500 + reg))
	}
	for slot := range 4 {
		if slot != 2 {
			o.Slots[slot] = number(int64(-500 - slot))
		}
	}
	p := pairOf(t, plain(4, o))
	for reg := range 12 {
		p.stays(op{by(reg, sends, 1)}, tells(0, third(int64(500+reg))))
	}
}

// A register that is void, or whose key does not count, does nothing: also one that led to a process.
func TestARegisterThatDoesNotCount(t *testing.T) {
	stale := slices.Concat(naming(1, 4, 9), naming(1, 6, 9), naming(2, 0, 0), naming(3, 1, 0)[:3], []api.Key{{}, resume(1, 5, 8), resume(1, 5, 10), resume(1, 5, 0), pageKey(1, 5), start(3, 1, 0), resume(3, 1, 0), bank(2, 0), proc(3, 1)})
	for _, k := range stale {
		for _, st := range []api.ProcState{available, waits} {
			for c := range int64(8) {
				p := pairOf(t, plain(4, process(1, 1, runs, k), process(5, 9, st), none(free, 0), full(aPage, 1, 0)))
				p.stays(op{by(0, sends, c)}.numbered(1), tells(0, code(errKey)))
				p.is(op{by(0, calls, c)}.sending(0, 0, 0), tells(0, code(errKey)))
				p.register(0, 8, api.Key{})
			}
		}
	}
}

// Messages

// receiver is a world of one that runs, with these keys in its registers, 11 of a start key to one that is available.
func receiver(registers ...api.Key) world {
	o := process(1, 1, runs, registers...)
	o.Slots[15] = start(1, 2, 3)
	return plain(4, o, process(2, 5, available), full(aPage, 6, 0), full(aNode, 7, 8))
}

// wasTold asks what the object 1 was told by hand.
func (p *pair) wasTold(m api.Message) {
	p.t.Helper()
	o, _ := p.m.Store().Get(1)
	if o.Slots[3] != number(m.Code) || [3]api.Key(o.Slots[12:15]) != m.Keys || o.Bytes != bytesOf(m.Data) || o.Slots[2] != number(1) {
		p.t.Fatalf("it was told %v %v %v, want %v", o.Slots[3], o.Slots[12:], o.Bytes, m)
	}
}

// Each register in each place of a message.
func TestSends(t *testing.T) {
	l := []api.Key{number(5), with(nodeKey(3, 7), 3), pageKey(2, 6), bank(3, 7), proc(0, 1), start(1, 2, 4), resume(3, 7, 8), discrim(), clock(), check(), nodeKey(0, 1)}
	has := append(slices.Clone(l), start(1, 2, 3))
	for a := -1; a <= 11; a++ {
		for b := -1; b <= 11; b++ {
			p := pairOf(t, receiver(l...))
			third := chooses(a*b, 13) - 1
			m := api.Message{Code: int64(a)}
			for i, r := range []int{a, b, third} {
				if r >= 0 {
					m.Keys[i] = has[r]
				}
			}
			p.is(op{by(11, sends, int64(a))}.sending(a, b, third), api.Done{Out: handed})
			p.wasTold(m)
		}
	}
}

func TestSendsThatDoNotCount(t *testing.T) {
	for at := range 3 {
		for _, k := range slices.Concat(naming(0, 0, 1), naming(3, 6, 8), naming(2, 0, 0), []api.Key{{}, resume(3, 7, 7), resume(3, 7, 9), pageKey(3, 7), nodeKey(2, 6)}) {
			p := pairOf(t, receiver(k, number(1)))
			x := op{by(11, sends, 2)}.sending(1, 1, 1)
			x.Sends[at] = 0
			m := api.Message{Code: 2, Keys: [3]api.Key{number(1), number(1), number(1)}}
			m.Keys[at] = api.Key{}
			p.is(x, api.Done{Out: handed})
			p.wasTold(m)
		}
	}
}

func TestNumbered(t *testing.T) {
	for _, n := range values() {
		for r := -1; r <= 11; r++ {
			p := pairOf(t, receiver(nodeKey(3, 7), number(8)))
			p.is(op{by(11, sends, 1)}.sending(0, 1, r).numbered(n), api.Done{Out: handed})
			p.wasTold(api.Message{Code: 1, Keys: [3]api.Key{nodeKey(3, 7), number(8), number(n)}})
		}
	}
}

func TestDataOfEachLength(t *testing.T) {
	for n := range 33 {
		for _, data := range []string{rising(n, byte(220+n)), strings.Repeat("\x00", n), strings.Repeat("\xff", n), strings.Repeat("\u00e4", n/2)} {
			p := pairOf(t, receiver())
			p.is(op{by(11, sends, 1)}.saying(data), api.Done{Out: handed})
			p.wasTold(api.Message{Code: 1, Data: data})
		}
	}
}

func TestCodes(t *testing.T) {
	for _, c := range values() {
		p := pairOf(t, receiver())
		p.is(op{by(11, sends, c)}, api.Done{Out: handed})
		p.wasTold(api.Message{Code: c})
	}
}

// By an order, too: all parts of a message are what layer 14 is told.
func TestTheMessageOfAnOrder(t *testing.T) {
	l := []api.Key{discrim(), nodeKey(3, 7), with(nodeKey(3, 7), 1), number(2), pageKey(2, 6), nodeKey(3, 6), bank(1, 3)}
	p := pairOf(t, receiver(l...))
	for r, k := range l {
		want := int64(k.Kind)
		if r >= 5 { // they do not count
			want = 0
		}
		p.stays(op{by(0, sends, 1)}.sending(r), tells(0, third(want)))
	}
	p.stays(op{by(0, sends, 1)}.sending(-1), tells(0, third(0)))
	p.stays(op{by(0, sends, 2)}.sending(2, 1), tells(0, third(1)))
	p.stays(op{by(0, sends, 2)}.sending(1, 2), tells(0, third(0)))
	p.stays(op{by(0, sends, 2)}.sending(5, 2), tells(0, third(1))) // the void key is within all
	p.stays(op{by(0, sends, 3)}.sending(2), tells(0, third(1)))
	p.stays(op{by(1, sends, 1)}.sending(-1, -1, 3), tells(0, first(api.Key{}))) // n by the register 3: slot 2 has a key that does not count
	p.stays(op{by(1, sends, 1)}.sending(-1, -1, 2), tells(0, code(errOrder)))
	p.stays(op{by(1, sends, 1)}.sending(-1, -1, 5), tells(0, code(errOrder)))
	p.stays(op{by(1, sends, 1)}, tells(0, code(errOrder)))
	p.stays(op{by(1, sends, 1)}.sending(-1, -1, 2).numbered(0), tells(0, first(number(-30))))
	p.is(op{by(4, sends, 2)}.sending(-1, -1, 3).saying("abc"), tells(0, api.Message{}))
	o := full(aPage, 6, 0)
	o.Bytes[2], o.Bytes[3], o.Bytes[4] = 'a', 'b', 'c'
	p.has(receiver(l...).with(2, o))
	p.stays(op{by(4, sends, 1)}.numbered(32), tells(0, api.Message{Data: string(o.Bytes[32:])}))
}

// Start and resume keys

// meeting is one that runs and has a key in register 2, and one to whom that key leads.
func meeting(from, to int64, st api.ProcState, k api.Key) world {
	return plain(5, full(aPage, 1, 0), process(4, from, runs, number(1), nodeKey(1, 4), k), bareProcess(9, 9, waits), process(6, to, st, clock()))
}

// What is handed over, by hand: all of both processes.
func TestWhatIsHandedOver(t *testing.T) {
	for _, mode := range modes() {
		for _, k := range []api.Key{start(3, 6, 5), resume(3, 6, 2)} {
			w, answerKey := meeting(7, 2, available, k), api.Key{}
			if k.Kind == 7 {
				w = meeting(7, 2, waits, k)
			}
			p := pairOf(t, w)
			p.is(op{by(2, mode, -77)}.saying("some data").sending(1, 2, 0).numbered(12), api.Done{Out: handed, Proc: 1})
			from, to := w.l[1], w.l[3]
			switch mode {
			case calls:
				from.Slots[2], answerKey = number(2), resume(1, 4, 7)
			case returns:
				from.Slots[2] = number(0)
			}
			if k.Kind == 7 {
				to.Calls = 3
			}
			to.Slots[2], to.Slots[3], to.Slots[15] = number(1), number(-77), answerKey
			to.Slots[12], to.Slots[13], to.Slots[14] = nodeKey(1, 4), k, number(12)
			to.Bytes = [64]byte{9, 's', 'o', 'm', 'e', ' ', 'd', 'a', 't', 'a'}
			p.has(w.with(1, from).with(3, to))
			p.runAre([][]int{calls: {3}, sends: {1, 3}, returns: {3}}[mode]...)
			p.staysGone()
		}
	}
}

// What refuses a start or a resume key that counts, in each mode and each state, with few and with all Calls: nothing has changed then.
func TestWhatIsRefused(t *testing.T) {
	for _, mode := range modes() {
		for _, st := range []api.ProcState{available, runs, waits, 3, -1} {
			for _, from := range []int64{0, 5, maxCount} {
				for _, to := range []int64{0, 5, maxCount} {
					for _, k := range []api.Key{start(3, 6, 5), resume(3, 6, to)} {
						want := api.Done{Out: refused, Proc: 1, Err: errBusy}
						switch {
						case st == 3 || st == -1:
							want.Err = errGone
						case k.Kind == 6 && st == available && mode == calls && from == maxCount:
							want.Err = errCalls
						case k.Kind == 7 && st == waits && (to == maxCount || mode == calls && from == maxCount):
							want.Err = errCalls
						case k.Kind == 6 && st == available || k.Kind == 7 && st == waits:
							want = api.Done{Out: handed, Proc: 1}
						}
						p := pairOf(t, meeting(from, to, st, k))
						x := op{by(2, mode, 9)}.saying("refused").sending(0, 1, 2)
						if want.Out == refused {
							p.stays(x, want)
						} else {
							p.is(x, want)
						}
					}
				}
			}
		}
	}
}

// In the town: which keys are refused, by whom.
func TestWhatIsRefusedInTheTown(t *testing.T) {
	for _, mode := range modes() {
		for _, x := range []struct {
			choice, reg int
			e           api.Errno
		}{{1, 0, errGone}, {1, 1, errBusy}, {1, 2, errBusy}, {1, 4, errCalls}, {1, 6, errBusy}, {1, 7, errBusy}, {2, 2, errCalls}, {2, 4, errBusy}, {2, 8, errGone}, {2, 9, errGone}} {
			pairOf(t, town()).stays(op{by(x.reg, mode, 1)}.of(x.choice), api.Done{Out: refused, Proc: []int{0, 1, 3}[x.choice], Err: x.e})
		}
	}
	for _, reg := range []int{0, 1} { // all Calls of who calls are used up; who sends needs none
		pairOf(t, town()).stays(op{by(reg, calls, 1)}.of(2), api.Done{Out: refused, Proc: 3, Err: errCalls})
		pairOf(t, town()).is(op{by(reg, sends, 1)}.of(2), api.Done{Out: handed, Proc: 3})
		pairOf(t, town()).is(op{by(reg, returns, 1)}.of(2), api.Done{Out: handed, Proc: 3})
	}
}

// A process invokes itself by a start key: with ModeReturn alone.
func TestAProcessInvokesItself(t *testing.T) {
	p := pairOf(t, town())
	p.stays(op{by(3, calls, 1)}.of(1), api.Done{Out: refused, Proc: 1, Err: errBusy})
	p.stays(op{by(3, sends, 1)}.of(1), api.Done{Out: refused, Proc: 1, Err: errBusy})
	o := town().l[1]
	p.is(op{by(3, returns, 6)}.of(1).saying("me").sending(9, 10, 11), api.Done{Out: handed, Proc: 1})
	o.Slots[3], o.Slots[12], o.Slots[13], o.Slots[14], o.Slots[15] = number(6), number(2), api.Key{}, clock(), api.Key{}
	o.Bytes = bytesOf("me")
	p.has(town().with(1, o))
}

// A resume key that was used, and a copy of it, are as the void key: that is an order, and told.
func TestAResumeKeyIsUsedOnce(t *testing.T) {
	for _, mode := range modes() {
		k := resume(1, 2, 5)
		p := pairOf(t, plain(4, process(1, 1, runs, k, k, proc(1, 2)), process(2, 5, waits, k), process(1, 1, runs, k, proc(0, 1))))
		p.is(op{by(0, mode, 1)}.sending(0, 1, 0), api.Done{Out: handed})
		p.is(op{by(1, sends, 5)}.of(-1).numbered(1), tells(2, api.Message{})) // it runs again
		p.runAre(0, 1, 2)
		for range 3 {
			for reg := range 2 {
				p.stays(op{by(reg, sends, 0)}, tells(0, code(errKey)))
			}
			for _, reg := range []int{0, 8, 9, 10} {
				p.stays(op{by(reg, sends, 0)}.of(1), tells(1, code(errKey)))
			}
			p.stays(op{by(0, sends, 0)}.of(2), tells(2, code(errKey)))
			p.is(op{by(2, sends, 5)}.numbered(2), tells(0, api.Message{})) // it waits anew
			p.stays(op{by(0, sends, 0)}, tells(0, code(errKey)))
			p.is(op{by(2, sends, 5)}.numbered(1), tells(0, api.Message{}))
		}
		p.staysGone()
	}
}

// Orders

// each has a key of each kind that does an order, and one that does not count; the object 0 runs.
func each() []api.Key {
	return []api.Key{{}, number(-6), nodeKey(3, 4), with(nodeKey(3, 4), 2), pageKey(2, 5), with(pageKey(2, 5), 1), bank(4, 1), proc(1, 7), discrim(), clock(), check(), nodeKey(3, 3)}
}

func eachWorld() world {
	return plain(8, process(1, 2, runs, each()...), process(7, 1, available, bank(4, 1), number(44)), full(aPage, 5, 0), full(aNode, 4, 6), bankOf(1, 5, 6))
}

// What is told is what layer 14 tells; who calls has it handed over, who sends has not, who returns has not, and is available.
func TestOrdersByEachKey(t *testing.T) {
	for reg, k := range each() {
		for c := int64(-1); c <= 9; c++ {
			for _, n := range []int64{-1, 0, 1, 2, 5, 16, math.MaxInt64} {
				x := op{by(reg, calls, c)}.sending(2, 4).numbered(n).saying("of an order")
				if n < 0 {
					x.Numbered = false
				}
				w := eachWorld()
				w.now = 55
				behind := w.copied()
				m := api.Message{Code: c, Data: "of an order", Keys: [3]api.Key{nodeKey(3, 4), pageKey(2, 5)}}
				if n >= 0 {
					m.Keys[2] = number(n)
				}
				answer, wants := behind.order(w.asItCounts(k), m)
				if wants != (k == check() && c == 1) {
					t.Fatalf("%v: a checkpoint is wanted: %v", x, wants)
				}
				want := api.Done{Out: told, Answer: answer, Wants: wants}
				for _, mode := range modes() {
					p := pairOf(t, w)
					x.Mode = mode
					p.is(x, want)
					o := behind.l[0]
					switch mode {
					case calls:
						o.Slots[3], o.Slots[15], o.Bytes = number(answer.Code), api.Key{}, bytesOf(answer.Data)
						copy(o.Slots[12:15], answer.Keys[:])
					case returns:
						o.Slots[2] = number(0)
					}
					p.has(behind.with(0, o))
				}
			}
		}
	}
}

// Some answers of orders, by hand.
func TestAnswersByHand(t *testing.T) {
	o := eachWorld()
	for _, x := range []struct {
		op
		m api.Message
	}{
		{op{by(0, sends, 0)}, code(errKey)},
		{op{by(1, sends, 0)}, third(1)},
		{op{by(1, sends, 1)}, third(-6)},
		{op{by(1, sends, 2)}, code(errOrder)},
		{op{by(2, sends, 1)}.numbered(0), first(number(-30))},
		{op{by(2, sends, 1)}, code(errOrder)},
		{op{by(2, sends, 1)}.numbered(16), code(4)},
		{op{by(2, sends, 6)}, first(proc(3, 4))},
		{op{by(3, sends, 3)}, code(errRight)},
		{op{by(4, sends, 1)}.numbered(60), api.Message{Data: string(o.l[2].Bytes[60:])}},
		{op{by(5, sends, 3)}, code(errRight)},
		{op{by(6, sends, 5)}.sending(2), third(0)},
		{op{by(7, sends, 4)}, third(0)},
		{op{by(7, sends, 1)}.numbered(1), first(number(44))},
		{op{by(7, sends, 3)}.numbered(-2), first(start(1, 7, -2))},
		{op{by(8, sends, 1)}.sending(6), third(4)},
		{op{by(9, sends, 1)}, third(3)},
		{op{by(10, sends, 0)}, third(10)},
		{op{by(11, sends, 1)}.numbered(1), code(errKey)},
	} {
		pairOf(t, eachWorld()).stays(x.op, tells(0, x.m))
	}
	p := pairOf(t, eachWorld())
	p.is(op{by(6, sends, 2)}, tells(0, first(pageKey(5, 1))))
	p.stays(op{by(10, sends, 1)}, api.Done{Out: told, Wants: true})
	p.stays(op{by(10, sends, 2)}, tells(0, code(errOrder)))
	p.is(op{by(7, sends, 5)}.numbered(2), tells(0, api.Message{}))
	p.is(op{tick(9)}, api.Done{Out: ticked})
	p.stays(op{by(9, sends, 1)}, tells(0, third(12)))
}

// The answer of a call, by hand: all of the process.
func TestTheAnswerIsHandedOver(t *testing.T) {
	w := eachWorld()
	for i := range w.l[2].Bytes {
		w.l[2].Bytes[i] = byte(i)
	}
	p, o := pairOf(t, w), w.l[0]
	p.is(op{by(4, calls, 1)}.numbered(7).sending(1, 2).saying("question"), tells(0, api.Message{Data: rising(32, 7)}))
	o.Slots[2], o.Slots[3] = number(1), number(0)
	o.Slots[12], o.Slots[13], o.Slots[14], o.Slots[15] = api.Key{}, api.Key{}, api.Key{}, api.Key{}
	o.Bytes = [64]byte{0: 32}
	for i := range 32 {
		o.Bytes[1+i] = byte(7 + i)
	}
	p.has(w.with(0, o))
	p.is(op{by(6, calls, 1)}, tells(0, first(nodeKey(5, 1))))
	o.Slots[12], o.Bytes = nodeKey(5, 1), [64]byte{}
	p.has(w.with(0, o).with(5, none(aNode, 1)))
	p.is(op{by(7, calls, 4)}, tells(0, third(0)))
	o.Slots[12], o.Slots[14] = api.Key{}, number(0)
	p.has(w.with(0, o).with(5, none(aNode, 1)))
	p.is(op{by(2, calls, 9)}, tells(0, code(errOrder)))
	o.Slots[3], o.Slots[14] = number(240), api.Key{}
	p.has(w.with(0, o).with(5, none(aNode, 1)))
}

// The answer is handed to nobody but who called: others that run stay as they are.
func TestToWhomTheAnswerIsHanded(t *testing.T) {
	for choice, who := range []int{0, 2, 3} {
		o := process(1, 1, runs, clock())
		w := world{[]api.Object{o, process(1, 1, waits, clock()), o, o, process(1, 1, available, clock())}, 66}
		p := pairOf(t, w)
		p.is(op{by(0, sends, 1)}.of(choice), tells(who, third(66)))
		p.has(w)
		p.is(op{by(0, calls, 1)}.of(choice), tells(who, third(66)))
		called := o
		called.Slots[3], called.Slots[12], called.Slots[13], called.Slots[14], called.Slots[15] = number(0), api.Key{}, api.Key{}, number(66), api.Key{}
		called.Bytes = [64]byte{}
		p.has(w.with(who, called))
		p.is(op{by(0, returns, 1)}.of(choice), tells(who, third(66)))
		called.Slots[2] = number(0)
		p.has(w.with(who, called))
	}
}

// Orders by which who invokes is changed itself: what its node is behind each, ahead of what the mode does to it.
func changes() (w world, l []struct {
	op
	behind api.Object
}) {
	o := process(1, 2, runs, proc(0, 1), nodeKey(0, 1), bank(1, 1), number(1), number(2), nodeKey(2, 1), nodeKey(3, 1), nodeKey(4, 1))
	w = plain(6, o, bankOf(1, 0, 0), full(aNode, 1, 1), process(1, 5, runs, number(33)), process(1, 6, waits, number(44)))
	put := func(slot int, k api.Key) api.Object {
		o := o
		o.Slots[slot] = k
		return o
	}
	clone := func(from api.Object) api.Object {
		o := o
		for slot, k := range from.Slots {
			o.Slots[slot] = w.asItCounts(k)
		}
		return o
	}
	add := func(x op, behind api.Object) {
		l = append(l, struct {
			op
			behind api.Object
		}{x, behind})
	}
	add(op{by(0, calls, 5)}.numbered(0), put(2, number(0)))
	add(op{by(0, calls, 5)}.numbered(1), o)
	add(op{by(0, calls, 5)}.numbered(2), put(2, number(2)))
	add(op{by(0, calls, 5)}.numbered(3), o)
	add(op{by(0, calls, 2)}.sending(3).numbered(0), put(4, number(1)))
	add(op{by(0, calls, 2)}.sending(3).numbered(8), put(12, number(1)))
	add(op{by(0, calls, 2)}.sending(3).numbered(11), put(15, number(1)))
	add(op{by(1, calls, 2)}.sending(-1).numbered(2), put(2, api.Key{}))
	add(op{by(1, calls, 2)}.sending(0).numbered(2), put(2, proc(0, 1)))
	add(op{by(1, calls, 2)}.sending(3).numbered(2), o)
	add(op{by(1, calls, 2)}.sending(4).numbered(2), put(2, number(2)))
	add(op{by(1, calls, 2)}.sending(4).numbered(3), put(3, number(2)))
	add(op{by(1, calls, 3)}, api.Object{Kind: aNode, Count: 1, Calls: 2, Bytes: o.Bytes})
	add(op{by(1, calls, 4)}.sending(5), clone(w.l[2]))
	add(op{by(1, calls, 4)}.sending(6), clone(w.l[3]))
	add(op{by(1, calls, 4)}.sending(7), clone(w.l[4]))
	add(op{by(2, calls, 3)}.sending(1), none(free, 1))
	add(op{by(2, calls, 6)}, none(free, 1))
	return w, l
}

func TestOrdersThatChangeWhoInvokes(t *testing.T) {
	w, l := changes()
	for _, x := range l {
		ran := w.with(0, x.behind).state(0) == runs
		for _, mode := range modes() {
			p, behind := pairOf(t, w), x.behind
			x.Mode = mode
			d, _ := p.does(x.Op)
			if ran && mode == calls {
				behind.Slots[3], behind.Slots[15], behind.Bytes = number(d.Answer.Code), api.Key{}, bytesOf(d.Answer.Data)
				copy(behind.Slots[12:15], d.Answer.Keys[:])
			}
			if ran && mode == returns {
				behind.Slots[2] = number(0)
			}
			if d.Out != told || d.Proc != 0 || d.Wants {
				t.Fatalf("%v: %v", x, d)
			}
			p.has(w.with(0, behind))
			p.staysGone()
		}
	}
	if n := len(l); n != 18 {
		t.Errorf("%d orders", n)
	}
}

// By an order another process may run, or run no more: the answer and the mode are for who invoked.
func TestOrdersThatChangeAnotherOne(t *testing.T) {
	for _, mode := range modes() {
		for st := range api.ProcState(3) {
			for n := range int64(3) {
				w := plain(4, process(1, 1, runs, proc(2, 3)), process(1, 1, waits), process(3, 5, st))
				p, who, other := pairOf(t, w), w.l[0], w.l[2]
				p.is(op{by(0, mode, 5)}.numbered(n), tells(0, api.Message{}))
				other.Slots[2] = number(n)
				switch mode {
				case calls:
					who.Slots[3], who.Slots[12], who.Slots[13], who.Slots[14], who.Slots[15] = number(0), api.Key{}, api.Key{}, api.Key{}, api.Key{}
					who.Bytes = [64]byte{}
				case returns:
					who.Slots[2] = number(0)
				}
				p.has(w.with(0, who).with(2, other))
			}
		}
	}
}

// Wants: by the check key's order 1 alone, in each mode, also where who invokes runs no more behind it.
func TestWhatWantsACheckpoint(t *testing.T) {
	for _, mode := range modes() {
		for reg, k := range each() {
			for c := int64(-3); c <= 12; c++ {
				d, _ := pairOf(t, eachWorld()).does(op{by(reg, mode, c)}.numbered(1).sending(10, 10).Op)
				if d.Wants != (k == check() && c == 1) {
					t.Fatalf("%v by %v in mode %d: %v", c, k, mode, d)
				}
			}
		}
		for _, x := range []op{{by(0, mode, 1)}, {by(1, mode, 1)}} { // nor by a message that is handed over
			p := pairOf(t, town())
			p.is(x.sending(5, 5, 5).saying("check"), api.Done{Out: handed})
		}
	}
	p := pairOf(t, town())
	p.is(op{tick(1)}, api.Done{Out: ticked})
}

// Where a make finds nothing, what it retired stays so, though its answer is an error: that is told, not refused.
func TestWhatIsRetired(t *testing.T) {
	w := plain(5, process(1, 1, runs, bank(1, 1)), bankOf(1, 2, 3), none(free, maxCount), none(free, maxCount))
	p := pairOf(t, w)
	p.is(op{by(0, sends, 1)}, tells(0, code(221)))
	p.has(w.with(2, none(retired, maxCount)).with(3, none(retired, maxCount)))
}

// Run

func TestRunOfNoSteps(t *testing.T) {
	p := pairOf(t, town())
	for _, l := range [][]api.Op{nil, {}, make([]api.Op, 0, 4)} {
		if done, e := p.m.Run(l...); len(done) != 0 || e != ok {
			t.Errorf("%v, %v", done, e)
		}
	}
	if done, e := p.m.Run(); len(done) != 0 || e != ok {
		t.Errorf("%v, %v", done, e)
	}
	p.has(town())
}

// row are steps each of which may be.
func row() []api.Op {
	return []api.Op{
		tick(6), by(4, calls, 1), by(5, sends, 1), op{by(2, calls, 2)}.of(3).Op, op{by(0, calls, 8)}.saying("there").sending(9, 7).Op,
		op{by(2, sends, 1)}.of(2).Op, tick(0), op{by(3, sends, 1)}.sending(2).Op, op{by(11, returns, 9)}.of(1).Op, by(0, sends, 4),
	}
}

func TestRunOfSeveral(t *testing.T) {
	for n := range len(row()) + 1 {
		p, q := pairOf(t, town()), pairOf(t, town())
		var want []api.Done
		for _, x := range row()[:n] {
			d, e := q.does(x)
			if e != ok {
				t.Fatalf("%v: %v", x, e)
			}
			want = append(want, d)
		}
		done, e := p.m.Run(row()[:n]...)
		if e != ok || !slices.Equal(done, want) {
			t.Fatalf("%d steps: %v, %v, want %v", n, done, e, want)
		}
		p.want = q.want
		p.holds("a run")
	}
}

// The first that may not be ends it, wherever it stands: what is ahead of it stays done, nothing behind it is.
func TestRunUpToWhatMayNotBe(t *testing.T) {
	for at := range len(row()) + 1 {
		for _, wrong := range []api.Op{{}, tick(-1), tick(maxTick + 1), by(12, calls, 1), by(0, 4, 1), op{by(0, calls, 1)}.sending(-2).Op, op{by(0, calls, 1)}.saying(rising(33, 0)).Op} {
			p, q := pairOf(t, town()), pairOf(t, town())
			var want []api.Done
			for _, x := range row()[:at] {
				d, _ := q.does(x)
				want = append(want, d)
			}
			done, e := p.m.Run(slices.Insert(row(), at, wrong)...)
			if e != errArg || !slices.Equal(done, want) {
				t.Fatalf("%v at %d: %v, %v, want %v", wrong, at, done, e, want)
			}
			p.want = q.want
			p.holds("a run up to there")
			done, e = p.m.Run(slices.Insert(slices.Insert(row(), at, wrong), 0, wrong)...)
			if e != errArg || len(done) != 0 {
				t.Fatalf("%v twice: %v, %v", wrong, done, e)
			}
			p.holds("a run of nothing")
		}
	}
}

// A tick that may not be by what was ahead of it ends a run, too.
func TestRunUpToTheLastTime(t *testing.T) {
	p := pairOf(t, world{town().l, maxTime - 2*maxTick - 1})
	done, e := p.m.Run(tick(maxTick), tick(maxTick), tick(1), tick(1), tick(0))
	if e != errArg || !slices.Equal(done, slices.Repeat([]api.Done{{Out: ticked}}, 3)) || p.m.Now() != maxTime {
		t.Errorf("%v, %v, at %d", done, e, p.m.Now())
	}
}

// What is refused, and what is idle, may be: a run goes on.
func TestRunGoesOnBehindWhatIsRefused(t *testing.T) {
	p := pairOf(t, plain(4, process(1, 1, runs, start(1, 1, 0), number(5)), process(1, 1, runs)))
	done, e := p.m.Run(by(0, calls, 1), by(2, returns, 1), op{by(1, returns, 1)}.of(-2).Op, by(0, calls, 1), tick(2), by(0, sends, 1))
	want := []api.Done{{Out: refused, Err: errBusy}, {Out: told, Answer: code(errKey)}, {Out: told, Proc: 1, Answer: code(errKey)}, {Out: idle}, {Out: ticked}, {Out: idle}}
	if e != ok || len(done) != 6 || done[0] != want[0] || done[3] != want[3] || done[4] != want[4] || done[5] != want[5] {
		t.Errorf("%v, %v, want %v", done, e, want)
	}
}

func TestRunLeavesWhatIsHandedIn(t *testing.T) {
	p := pairOf(t, town())
	all := append(row(), row()...)
	l := all[:len(row()):len(all)]
	done, e := p.m.Run(l...)
	if e != ok || !slices.Equal(all, append(row(), row()...)) {
		t.Fatalf("what was handed in is %v, %v", all, e)
	}
	was, behind := slices.Clone(done), p.m.Store()
	for i := range l {
		l[i] = api.Op{}
	}
	more, _ := p.m.Run(tick(1), by(4, calls, 1))
	for i := range more {
		more[i].Proc = 99
	}
	if !slices.Equal(done, was) {
		t.Errorf("an answer was changed: %v", done)
	}
	for i := range done {
		done[i] = api.Done{Out: 99}
	}
	q, _ := machine.Of(behind, 1006)
	if q.Step(tick(1)); q.Now() != p.m.Now() {
		t.Errorf("it is %d", p.m.Now())
	}
	if q.Step(by(4, calls, 1)); !machine.Same(p.m, q) {
		t.Error("the machine hangs on what was handed in, or told")
	}
}

// Store, Now, Copy, Same

func TestTheStoreIsACopy(t *testing.T) {
	p := pairOf(t, town())
	s, other := p.m.Store(), p.m.Store()
	s.Put(0, full(aPage, 8, 0))
	s.Put(15, none(retired, 7))
	p.holds("what was told was changed")
	if !objects.Same(other, storeOf(t, town())) {
		t.Error("another store that was told was changed")
	}
	p.is(op{by(0, sends, 1)}, api.Done{Out: handed})
	if !objects.Same(other, storeOf(t, town())) {
		t.Error("what was told was changed by a step")
	}
	if objects.Same(p.m.Store(), other) {
		t.Error("the store is as it was ahead of a step")
	}
	p.holds("behind it all")
}

func TestNow(t *testing.T) {
	for _, now := range []int64{0, 1, 77, maxTime - 1, maxTime} {
		p := pairOf(t, world{town().l, now})
		if n := p.m.Now(); n != now {
			t.Errorf("it is %d, want %d", n, now)
		}
		p.does(by(0, sends, 1))
		p.does(by(0, calls, 1))
		p.does(tick(-1))
		if n := p.m.Now(); n != now {
			t.Errorf("it is %d, want %d", n, now)
		}
	}
	p := booted(t, 4)
	var sum int64
	for _, n := range []int64{0, 5, 1, maxTick, 0, 300} {
		p.is(op{tick(n)}, api.Done{Out: ticked})
		sum += n
		if now := p.m.Now(); now != sum {
			t.Errorf("it is %d, want %d", now, sum)
		}
	}
}

func TestCopyGoesOnApart(t *testing.T) {
	p := pairOf(t, town())
	p.is(op{tick(5)}, api.Done{Out: ticked})
	q := &pair{t: t, m: p.m.Copy(), want: p.want.copied()}
	if q.m == p.m || !machine.Same(p.m, q.m) {
		t.Fatal("the copy is no other one, or another one")
	}
	q.holds("a copy")
	r := &pair{t: t, m: q.m.Copy(), want: p.want.copied()}
	p.is(op{by(0, calls, 1)}, api.Done{Out: handed})
	p.is(op{tick(6)}, api.Done{Out: ticked})
	q.holds("the first one took steps")
	q.is(op{by(2, sends, 1)}, tells(0, first(nodeKey(9, 1))))
	q.is(op{tick(7)}, api.Done{Out: ticked})
	p.holds("the copy took steps")
	r.holds("those ahead of it took steps")
	if machine.Same(p.m, q.m) || machine.Same(q.m, r.m) || machine.Same(p.m, r.m) {
		t.Error("they are the same")
	}
	// by the same steps all come to the same
	for _, x := range []*pair{p, q, r} {
		other := x.m.Copy()
		done, e := x.m.Run(row()...)
		again, otherE := other.Run(row()...)
		if !slices.Equal(done, again) || e != otherE || !machine.Same(x.m, other) {
			t.Errorf("%v, %v; %v, %v", done, e, again, otherE)
		}
	}
}

func TestSame(t *testing.T) {
	a, b := pairOf(t, town()), pairOf(t, town())
	none := nobody()
	for _, x := range none {
		for _, y := range none {
			if !machine.Same(x, y) {
				t.Error("two that are not there are not the same")
			}
		}
		for _, m := range []*machine.Machine{a.m, booted(t, 4).m, pairOf(t, world{l: make([]api.Object, 4)}).m} {
			if machine.Same(x, m) || machine.Same(m, x) {
				t.Error("one is as none")
			}
		}
	}
	if !machine.Same(a.m, a.m) || !machine.Same(a.m, b.m) || !machine.Same(b.m, a.m) {
		t.Error("they are not the same")
	}
	for _, now := range []int64{0, 999, 1001, 1000 + 1<<32, maxTime} {
		c := pairOf(t, world{town().l, now})
		if machine.Same(a.m, c.m) || machine.Same(c.m, a.m) {
			t.Errorf("at 1000 and at %d they are the same", now)
		}
	}
	more := town()
	more.l = append(more.l, api.Object{})
	for _, w := range []world{more, {town().l[:15], 1000}, {town().l[:4:4], 1000}} {
		if len(w.l) == 4 {
			w.l[0], w.l[1], w.l[3] = bareProcess(1, 1, runs), full(aNode, 1, 1), api.Object{}
		}
		if w.l = slices.Clone(w.l); len(w.l) == 15 {
			w.l[2] = api.Object{}
		}
		c := pairOf(t, w)
		if machine.Same(a.m, c.m) || machine.Same(c.m, a.m) {
			t.Errorf("of 16 and of %d objects they are the same", len(w.l))
		}
	}
	a.holds("it was compared")
}

// One object alone, by one part of it alone.
func TestSameByOneObject(t *testing.T) {
	a := pairOf(t, town())
	for oid, o := range town().l {
		var l []api.Object
		add := func(change func(o *api.Object)) {
			o := o
			change(&o)
			l = append(l, o)
		}
		add(func(o *api.Object) { o.Count ^= 1 })
		if o.Kind == aNode {
			add(func(o *api.Object) { o.Calls ^= 1 })
			for slot := range 16 {
				add(func(o *api.Object) { o.Slots[slot] = number(98765) })
			}
		}
		if o.Kind == aNode || o.Kind == aPage {
			for at := range 64 {
				add(func(o *api.Object) { o.Bytes[at] ^= 128 })
			}
		} else {
			add(func(o *api.Object) { o.Kind = free + retired - o.Kind })
		}
		for _, other := range l {
			b := pairOf(t, town().with(oid, other))
			if machine.Same(a.m, b.m) || machine.Same(b.m, a.m) {
				t.Fatalf("of %v and of %v they are the same", o, other)
			}
		}
	}
	if b := pairOf(t, town()); !machine.Same(a.m, b.m) {
		t.Error("they are not the same")
	}
}

// P15.3

// Made, destroyed and made again: the Count goes up each time, and no key of what was counts.
func TestMadeDestroyedAndMadeAgain(t *testing.T) {
	p := booted(t, 5)
	for n := int64(1); n <= 12; n++ {
		kind, kept := 1+n%2, 5+int(n%3)
		k := key(api.KeyKind(kind+1), 2, n)
		p.is(op{by(0, calls, kind)}, tells(0, first(k)))
		p.is(op{by(4, sends, 2)}.sending(8).numbered(int64(kept)), tells(0, first(api.Key{})))
		p.register(0, kept, k)
		for reg := 5; reg <= 7; reg++ { // what was kept of those ahead is as void
			if reg != kept {
				p.stays(op{by(reg, sends, 0)}, tells(0, code(errKey)))
			}
		}
		if n%4 == 0 {
			p.is(op{by(0, sends, 6)}, tells(0, third(1)))
		} else {
			p.is(op{by(0, sends, 3)}.sending(kept), tells(0, api.Message{}))
		}
		if o, _ := p.m.Store().Get(2); o != none(free, n) {
			t.Fatalf("the object 2 is %v", o)
		}
		p.stays(op{by(0, sends, 3)}.sending(kept), tells(0, code(5)))
	}
	p.staysGone()
	if len(p.gone) < 12 {
		t.Errorf("only %d keys count no more", len(p.gone))
	}
}

// The last Count: behind that its number is given no more.
func TestTheLastCount(t *testing.T) {
	w := plain(4, process(1, 1, runs, bank(1, 1)), bankOf(1, 2, 3), none(free, maxCount-1), none(free, maxCount-2))
	p := pairOf(t, w)
	for _, k := range []api.Key{nodeKey(2, maxCount), pageKey(3, maxCount-1)} {
		p.is(op{by(0, calls, int64(k.Kind)-1)}, tells(0, first(k)))
		p.is(op{by(0, sends, 3)}.sending(8), tells(0, api.Message{}))
	}
	p.is(op{by(0, calls, 1)}, tells(0, first(nodeKey(3, maxCount))))
	p.is(op{by(0, calls, 1)}, tells(0, code(221)))
	p.is(op{by(0, sends, 6)}, tells(0, third(1)))
	p.is(op{by(0, calls, 1)}, tells(0, code(221)))
	for oid := 2; oid < 4; oid++ {
		if o, _ := p.m.Store().Get(oid); o != none(retired, maxCount) {
			t.Errorf("the object %d is %v", oid, o)
		}
	}
	p.staysGone()
}

// Called and answered, many times: each answer is by a key of its own, that counts no more behind it.
func TestCalledAndAnswered(t *testing.T) {
	p := pairOf(t, plain(4, bareProcess(1, 0, runs, start(1, 2, 5)), bareProcess(2, 0, available), bareProcess(1, 0, waits, nodeKey(0, 1))))
	for n := range int64(20) {
		p.is(op{by(0, calls, n)}, api.Done{Out: handed})
		p.runAre(1)
		p.register(1, 11, resume(0, 1, n))
		p.is(op{by(11, returns, -n)}.sending(11), api.Done{Out: handed, Proc: 1})
		p.runAre(0)
		p.register(0, 8, resume(0, 1, n)) // as it is: it counts no more
		p.stays(op{by(8, sends, 0)}, tells(0, code(errKey)))
	}
	p.staysGone()
	if len(p.gone) != 20 {
		t.Errorf("%d keys were used", len(p.gone))
	}
}

// Each of a row of processes calls the next one, and is answered by it; in register 5 it keeps by which key it answers, for an answer leaves none in 11.
func TestARowOfCalls(t *testing.T) {
	const n = 20
	var l []api.Object
	for oid := range n {
		l = append(l, bareProcess(1, 0, available, start((oid+1)%n, 1, int64(oid)), proc(oid, 1)))
	}
	l[0].Slots[2] = number(1)
	p := pairOf(t, world{l, 0})
	for oid := range n - 1 {
		p.is(op{by(1, sends, 2)}.of(oid).sending(11).numbered(5), tells(oid, first(api.Key{})))
		p.is(op{by(0, calls, 1)}.of(oid), api.Done{Out: handed, Proc: oid})
		p.runAre(oid + 1)
	}
	p.stays(op{by(0, calls, 1)}, api.Done{Out: refused, Proc: n - 1, Err: errBusy}) // the first one waits
	p.is(op{by(11, returns, 1)}, api.Done{Out: handed, Proc: n - 1})
	for oid := n - 2; oid > 0; oid-- {
		p.runAre(oid)
		p.stays(op{by(11, sends, 1)}.of(oid).sending(5), tells(oid, code(errKey)))
		p.is(op{by(5, returns, 1)}, api.Done{Out: handed, Proc: oid})
	}
	p.runAre(0)
	p.staysGone()
}

// All that may be asked

// All steps of few values, in each of some worlds: no call gives up, and each answers as the document does.
func TestAllThatMayBeAsked(t *testing.T) {
	changed, _ := changes()
	worlds := []world{town(), eachWorld(), changed, receiver(naming(1, 2, 5)...), plain(4), meeting(maxCount, 2, waits, resume(3, 6, 2))}
	for i, w := range worlds {
		for reg := -1; reg <= 12; reg++ {
			for mode := api.Mode(-1); mode <= 4; mode++ {
				for c := int64(-1); c <= 8; c++ {
					for proc := -1; proc <= 2; proc++ {
						x := op{by(reg, mode, c)}.of(proc).sending((reg+i)%12, int(c)%13, proc).saying(rising(int(3+c*3), byte(reg)))
						if (reg+int(c))%3 == 0 {
							x = x.numbered(int64(proc))
						}
						pairOf(t, w).does(x.Op)
					}
				}
			}
		}
		p := pairOf(t, w)
		for _, kind := range append(wrongKinds(), 1, 2) {
			for _, n := range ints() {
				p.does(api.Op{Kind: kind, Proc: n, Reg: n, Mode: api.Mode(n), Code: int64(n), Sends: [3]int{n, n, n}, Numbered: n%2 == 0, Value: int64(n)})
				p.does(api.Op{Kind: kind, Proc: n, Reg: 3, Mode: sends, Code: int64(n), Sends: [3]int{-1, 2, -1}, Numbered: n%2 == 0, Value: int64(n)})
			}
		}
	}
}

// Many steps in no order

// chance is numbers that are the same each time.
func chance(from uint32) func(n int) int {
	return func(n int) int {
		from = from*1664525 + 1013904223
		return int(from>>8) % n
	}
}

func pick[T any](next func(n int) int, l ...T) T { return l[next(len(l))] }

// someWorld is mostly processes, of which some have nearly used up their Calls; the first one runs.
func someWorld(next func(n int) int, n int) world {
	w := world{now: int64(next(1000))}
	for len(w.l) < n {
		count, calls := int64(next(3)), pick[int64](next, 0, 0, 0, 1, 7, maxCount-4, maxCount-1, maxCount)
		w.l = append(w.l, pick(next,
			bareProcess(count, calls, runs), bareProcess(count, calls, available), bareProcess(count, calls, available), bareProcess(count, calls, waits),
			full(aNode, count, calls), full(aPage, count, 0), none(free, count), none(free, maxCount), none(free, maxCount-1), none(retired, count), bankOf(count, int64(next(n)), int64(n-1))))
	}
	w.l[0] = bareProcess(1, 0, runs)
	for oid := range w.l {
		if w.state(oid) != isNone {
			for slot := range 12 {
				w.l[oid].Slots[4+slot] = w.someKey(next)
			}
		}
	}
	return w
}

// someKey is of any kind; mostly it counts, and leads on.
func (w world) someKey(next func(n int) int) api.Key {
	oid := next(len(w.l))
	o := w.l[oid]
	switch st := w.state(oid); {
	case next(6) == 0:
		return pick(next, api.Key{}, number(int64(next(20)-2)), number(1), discrim(), clock(), check())
	case next(12) == 0:
		return pick(next, naming(oid, int64(next(4)), int64(next(3)))...)
	case o.Kind == aPage:
		return pageKey(oid, o.Count)
	case o.Kind != aNode:
		return api.Key{}
	case o.Slots[0].Kind == 1 && o.Slots[1].Kind == 1:
		return pick(next, bank(oid, o.Count), nodeKey(oid, o.Count))
	case st == waits && next(2) == 0:
		return resume(oid, o.Count, o.Calls)
	case st == available && next(2) == 0:
		return start(oid, o.Count, int64(next(9)))
	}
	return pick(next, naming(oid, o.Count, o.Calls)...)
}

// someOp is mostly an invocation by a register that does something, mostly by who goes on behind it.
func (w world) someOp(next func(n int) int) api.Op {
	if next(10) == 0 {
		return pick(next, tick(int64(next(300))), tick(maxTick), tick(0), tick(-1), tick(maxTick+1), api.Op{Kind: 3}, api.Op{})
	}
	x := op{by(next(12), pick(next, calls, calls, sends, sends, sends, returns), int64(next(9)))}.of(next(9) - 4)
	if l := w.running(); len(l) > 0 {
		who := l[chooses(x.Proc, len(l))]
		for range 3 {
			if w.asItCounts(w.l[who].Slots[4+x.Reg]) == (api.Key{}) {
				x.Reg = next(12)
			}
		}
		if w.l[who].Slots[4+x.Reg].Kind == 7 && next(3) == 0 {
			x.Mode = returns
		}
	}
	x = x.sending(next(13)-1, next(13)-1, next(13)-1).saying(rising(next(33), byte(next(256))))
	if next(2) == 0 {
		x = x.numbered(int64(next(18) - 2))
	}
	if next(60) == 0 {
		x.Op = pick(next, wrongInvocations()...)
	}
	return x.Op
}

func TestManySteps(t *testing.T) {
	type seen struct {
		out api.OutKind
		e   api.Errno
	}
	came := make(map[seen]int)
	for i := range 150 {
		next := chance(uint32(i))
		p := booted(t, 4+next(10))
		if i%5 > 0 {
			p = pairOf(t, someWorld(next, pick(next, 4, 5, 8, 13, 20, 64)))
		}
		for range 120 {
			d, e := p.does(p.want.someOp(next))
			came[seen{d.Out, max(e, d.Err)}]++
			if d.Out == idle && next(8) == 0 {
				break
			}
		}
		p.staysGone()
	}
	for _, x := range []seen{{0, errArg}, {idle, ok}, {handed, ok}, {refused, errGone}, {refused, errBusy}, {refused, errCalls}, {told, ok}, {ticked, ok}} {
		if came[x] < 15 {
			t.Errorf("%v came only %d times", x, came[x])
		}
	}
}

// What a run answers, and comes to, is what its steps do, one by one.
func TestRunIsStepByStep(t *testing.T) {
	for i := range 60 {
		next := chance(uint32(7000 + i))
		w := someWorld(next, pick(next, 4, 8, 20))
		p, q, l := pairOf(t, w), pairOf(t, w), []api.Op(nil)
		var want []api.Done
		e := ok
		for range 40 {
			x := q.want.someOp(next)
			l = append(l, x)
			if e != ok {
				continue
			}
			d, now := q.does(x)
			if e = now; e == ok {
				want = append(want, d)
			}
		}
		done, got := p.m.Run(l...)
		if got != e || !slices.Equal(done, want) || !machine.Same(p.m, q.m) {
			t.Fatalf("%v, %v, want %v, %v", done, got, want, e)
		}
	}
}
