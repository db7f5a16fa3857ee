package orders_test

import (
	"math"
	"slices"
	"strings"
	"testing"

	"chatelaine/api"
	"chatelaine/objects"
	"chatelaine/orders"
)

// What the document says of orders, and of the layers whose calls they make, stands here once more, in plain words and numbers of its own.

const (
	maxCount = 4294967295
	maxData  = 32

	ok       = api.Errno(0)
	errNil   = api.Errno(1)
	errArg   = api.Errno(2)
	errRange = api.Errno(4)
	errNone  = api.Errno(5)
	errKey   = api.Errno(190)
	errRight = api.Errno(191)
	errBank  = api.Errno(220)
	errFull  = api.Errno(221)
	errOrder = api.Errno(240)
	errParty = api.Errno(241)

	free    = api.ObjKind(0)
	aNode   = api.ObjKind(1)
	aPage   = api.ObjKind(2)
	retired = api.ObjKind(3)
)

// world is what a store should have; one of no objects stands for no store.
type world []api.Object

// mayBe tells whether a key may be.
func mayBe(k api.Key) bool {
	if k.Kind < 0 || k.Kind > 10 {
		return false
	}
	bare := api.Key{Kind: k.Kind}
	object := k.Oid >= 0 && k.Oid <= 63 && k.Count >= 0 && k.Count <= maxCount
	switch k.Kind {
	case 0, 8, 9, 10:
		return k == bare
	case 1:
		bare.Value = k.Value
		return k == bare
	}
	bare.Oid, bare.Count = k.Oid, k.Count
	switch k.Kind {
	case 2:
		bare.Rights = k.Rights & 7
	case 3:
		bare.Rights = k.Rights & 1
	case 6:
		bare.Value = k.Value
	case 7:
		bare.Call = k.Call
		object = object && k.Call >= 0 && k.Call <= maxCount
	}
	return object && k == bare
}

func isOfObject(k api.Key) bool { return k.Kind >= 2 && k.Kind <= 7 }

// mayHave tells whether a key may be, and names nothing that the store has not.
func (w world) mayHave(k api.Key) bool {
	return mayBe(k) && (!isOfObject(k) || k.Oid < len(w))
}

// counts tells whether a key counts.
func (w world) counts(k api.Key) bool {
	if !w.mayHave(k) {
		return false
	}
	if !isOfObject(k) {
		return true
	}
	o := w[k.Oid]
	if o.Count != k.Count {
		return false
	}
	if k.Kind == 3 {
		return o.Kind == aPage
	}
	return o.Kind == aNode && (k.Kind != 7 || o.Calls == k.Call)
}

// asItCounts tells a key that does not count as the void key.
func (w world) asItCounts(k api.Key) api.Key {
	if w.counts(k) {
		return k
	}
	return api.Key{}
}

// within tells whether a key that may be is within another one.
func within(a, b api.Key) bool {
	if a.Kind == 0 || a == b {
		return true
	}
	less := b
	less.Rights = a.Rights
	return a.Kind <= 3 && a == less && a.Rights&b.Rights == b.Rights
}

// Orders

// order is what is asked of a store.
type order struct {
	now int64
	key api.Key
	m   api.Message
}

// by is an order by a key, with keys that it is about.
func by(k api.Key, code int64, l ...api.Key) order {
	x := order{now: 3, key: k, m: api.Message{Code: code}}
	copy(x.m.Keys[:], l)
	return x
}

// byN is one with n.
func byN(k api.Key, code, n int64, l ...api.Key) order {
	x := by(k, code, l...)
	x.m.Keys[2] = number(n)
	return x
}

func (x order) with(data string) order {
	x.m.Data = data
	return x
}

func (x order) at(now int64) order {
	x.now = now
	return x
}

// did is what is answered.
type did struct {
	m     api.Message
	wants bool
	e     api.Errno
}

func code(e api.Errno) did { return did{m: api.Message{Code: int64(e)}} }

func fault(n int64) did { return did{m: api.Message{Code: 1000 + n}} }

func first(k api.Key) did { return did{m: api.Message{Keys: [3]api.Key{k}}} }

func third(n int64) did { return did{m: api.Message{Keys: [3]api.Key{2: number(n)}}} }

func text(b string) did { return did{m: api.Message{Data: b}} }

// of is what the program answers.
func (x order) of(s *objects.Store) (d did) {
	d.m, d.wants, d.e = orders.Do(s, x.now, x.key, x.m)
	return d
}

// orderCodes are the Codes above 0 by which a kind of keys does something: those that want no n, and those that do.
type orderCodes struct{ plain, wantN []int64 }

func table() map[api.KeyKind]orderCodes {
	return map[api.KeyKind]orderCodes{
		1:  {plain: []int64{1}},
		2:  {plain: []int64{3, 4, 6}, wantN: []int64{1, 2, 5}},
		3:  {plain: []int64{3, 4}, wantN: []int64{1, 2, 5}},
		4:  {plain: []int64{1, 2, 3, 5, 6}, wantN: []int64{4}},
		5:  {plain: []int64{4}, wantN: []int64{1, 2, 3, 5, 6, 7}},
		8:  {plain: []int64{1, 2, 3}},
		9:  {plain: []int64{1}},
		10: {plain: []int64{1}},
	}
}

// do is what the document answers; the world is then as it should be behind the order.
func (w world) do(x order) did {
	if len(w) == 0 {
		return did{e: errNil}
	}
	m := x.m
	for i, k := range m.Keys {
		if !w.mayHave(k) {
			return did{e: errArg}
		}
		m.Keys[i] = w.asItCounts(k)
	}
	if !w.mayHave(x.key) || len(m.Data) > maxData || x.now < 0 {
		return did{e: errArg}
	}
	k := w.asItCounts(x.key)
	switch k.Kind {
	case 0:
		return code(errKey)
	case 6, 7:
		return did{e: errParty}
	}
	if m.Code == 0 {
		return third(int64(k.Kind))
	}
	l := table()[k.Kind]
	if !slices.Contains(l.plain, m.Code) && (!slices.Contains(l.wantN, m.Code) || m.Keys[2].Kind != 1) {
		return code(errOrder)
	}
	switch k.Kind {
	case 1:
		return third(k.Value)
	case 2:
		return w.doNode(k, m)
	case 3:
		return w.doPage(k, m)
	case 4:
		return w.doBank(k, m)
	case 5:
		return w.doProc(k, m)
	case 8:
		return doDiscrim(m)
	case 9:
		return third(x.now)
	}
	return did{wants: true}
}

// got is what a node key gets of a slot that there is.
func (w world) got(k api.Key, slot int64) api.Key {
	x := w.asItCounts(w[k.Oid].Slots[slot])
	if k.Rights&2 == 0 {
		return x
	}
	switch x.Kind {
	case 0, 1, 8:
		return x
	case 2:
		x.Rights |= 3
		return x
	case 3:
		x.Rights |= 1
		return x
	}
	return api.Key{}
}

func (w world) doNode(k api.Key, m api.Message) did {
	n, o := m.Keys[2].Value, &w[k.Oid]
	if m.Code >= 2 && m.Code <= 4 && k.Rights&3 != 0 || m.Code == 6 && k.Rights != 0 {
		return code(errRight)
	}
	if m.Code <= 2 && (n < 0 || n > 15) {
		return code(errRange)
	}
	switch m.Code {
	case 1:
		return first(w.got(k, n))
	case 2:
		was := w.got(k, n)
		o.Slots[n] = m.Keys[0]
		return first(was)
	case 3:
		o.Slots = [16]api.Key{}
		return did{}
	case 4:
		if m.Keys[0].Kind != 2 {
			return code(errKey)
		}
		var l [16]api.Key
		for slot := range l {
			l[slot] = w.got(m.Keys[0], int64(slot))
		}
		o.Slots = l
		return did{}
	case 5:
		if n < 0 || n > 7 {
			return code(errArg)
		}
		return first(with(k, k.Rights|api.Rights(n)))
	}
	return first(proc(k.Oid, k.Count))
}

func (w world) doPage(k api.Key, m api.Message) did {
	n, o := m.Keys[2].Value, &w[k.Oid]
	if m.Code >= 2 && m.Code <= 4 && k.Rights != 0 {
		return code(errRight)
	}
	if m.Code <= 2 && (n < 0 || n > 64) || m.Code == 2 && n+int64(len(m.Data)) > 64 {
		return code(errRange)
	}
	switch m.Code {
	case 1:
		b := o.Bytes[n:]
		if len(b) > 32 {
			b = b[:32]
		}
		return text(string(b))
	case 2:
		copy(o.Bytes[n:], m.Data)
	case 3:
		o.Bytes = [64]byte{}
	case 4:
		if m.Keys[0].Kind != 3 {
			return code(errKey)
		}
		o.Bytes = w[m.Keys[0].Oid].Bytes
	case 5:
		if n < 0 || n > 7 {
			return code(errArg)
		}
		return first(with(k, k.Rights|api.Rights(n&1)))
	}
	return did{}
}

func (w world) isThere(oid int) bool { return w[oid].Kind == aNode || w[oid].Kind == aPage }

// span tells the first and the last Oid of a bank, and whether it is one.
func (w world) span(k api.Key) (int, int, bool) {
	a, b := w[k.Oid].Slots[0], w[k.Oid].Slots[1]
	is := a.Kind == 1 && b.Kind == 1 && a.Value >= 0 && a.Value <= b.Value && b.Value < int64(len(w))
	return int(a.Value), int(b.Value), is
}

func (w world) doBank(k api.Key, m api.Message) did {
	from, to, is := w.span(k)
	if !is {
		return code(errBank)
	}
	about := m.Keys[0]
	its := isOfObject(about) && about.Oid >= from && about.Oid <= to
	switch m.Code {
	case 1, 2:
		return w.make(from, to, api.ObjKind(m.Code))
	case 3:
		if about.Kind != 2 && about.Kind != 3 {
			return code(errNone)
		}
		if !its || about.Oid == k.Oid {
			return code(errRange)
		}
		w[about.Oid] = none(free, about.Count)
		return did{}
	case 4:
		return w.split(k, m.Keys[2].Value)
	case 5:
		if its {
			return third(1)
		}
		return third(0)
	}
	var many int64
	for oid := from; oid <= to; oid++ {
		if w.isThere(oid) && oid != k.Oid {
			w[oid] = none(free, w[oid].Count)
			many++
		}
	}
	return third(many)
}

func (w world) make(from, to int, kind api.ObjKind) did {
	for oid := from; oid <= to; oid++ {
		if w[oid].Kind != free {
			continue
		}
		if w[oid].Count == maxCount {
			w[oid].Kind = retired
			continue
		}
		w[oid] = api.Object{Kind: kind, Count: w[oid].Count + 1}
		return first(key(api.KeyKind(kind)+1, oid, w[oid].Count))
	}
	return code(errFull)
}

func (w world) split(k api.Key, n int64) did {
	from, to, _ := w.span(k)
	if n < 1 || n > int64(to-from) {
		return code(errRange)
	}
	behind := slices.Clone(w)
	d := behind.make(from, to, aNode)
	if d.m.Code != 0 {
		return d
	}
	last := to - int(n)
	for oid := last + 1; oid <= to; oid++ {
		if behind.isThere(oid) {
			return code(errFull)
		}
	}
	made := d.m.Keys[0]
	behind[made.Oid].Slots[0], behind[made.Oid].Slots[1] = number(int64(last)+1), number(int64(to))
	behind[k.Oid].Slots[1] = number(int64(last))
	copy(w, behind)
	return first(bank(made.Oid, made.Count))
}

func (w world) doProc(k api.Key, m api.Message) did {
	n, o := m.Keys[2].Value, &w[k.Oid]
	switch m.Code {
	case 1, 2:
		if n < 0 || n > 11 {
			return code(errRange)
		}
		was := w.asItCounts(o.Slots[4+n])
		if m.Code == 2 {
			o.Slots[4+n] = m.Keys[0]
		}
		return first(was)
	case 3:
		return first(start(k.Oid, k.Count, n))
	case 4:
		return third(w.state(k.Oid))
	case 5:
		if n < 0 || n > 2 {
			return code(errArg)
		}
		o.Slots[2] = number(n)
		return did{}
	}
	if n < 0 {
		return code(errRange)
	}
	want := int64(maxData)
	if m.Code == 7 {
		want = int64(len(m.Data))
	}
	x := w.walk(place{key: w.asItCounts(o.Slots[0]), addr: n, above: 9})
	if x.fault == 0 && x.addr+want > 64 {
		x.fault = 5
	}
	if x.fault == 0 && m.Code == 7 && x.rights&3 != 0 {
		x.fault = 6
	}
	if x.fault != 0 {
		return fault(x.fault)
	}
	page := &w[x.key.Oid].Bytes
	if m.Code == 6 {
		return text(string(page[x.addr:][:32]))
	}
	copy(page[x.addr:], m.Data)
	return did{}
}

// state tells a process's state, -1 where there is none.
func (w world) state(oid int) int64 {
	k := w[oid].Slots[2]
	if w[oid].Kind != aNode || k.Kind != 1 || k.Value < 0 || k.Value > 2 {
		return -1
	}
	return k.Value
}

// place is where a walk is: at its end, if that is no fault, a page's key, the byte in the page, all rights on the way.
type place struct {
	key    api.Key
	addr   int64
	rights api.Rights
	depth  int
	above  int64 // the next height is below it
	fault  int64
}

func (w world) walk(x place) place {
	o := w[x.key.Oid]
	h := o.Slots[15]
	switch {
	case x.key.Kind != 2 && x.key.Kind != 3:
		x.fault = 1
	case x.key.Kind == 3 && x.addr >= 64:
		x.fault = 2
	case x.key.Kind == 3:
		x.rights |= x.key.Rights
	case x.depth == 8:
		x.fault = 3
	case h.Kind != 1 || h.Value < 1 || h.Value > 8 || h.Value >= x.above:
		x.fault = 4
	default:
		part := int64(64) << (4 * (h.Value - 1))
		if x.addr/part > 13 {
			x.fault = 2
			return x
		}
		next := place{w.got(x.key, x.addr/part), x.addr % part, x.rights | x.key.Rights, x.depth + 1, h.Value, 0}
		return w.walk(next)
	}
	return x
}

func doDiscrim(m api.Message) did {
	switch m.Code {
	case 1:
		return third(int64(m.Keys[0].Kind))
	case 2:
		if within(m.Keys[0], m.Keys[1]) {
			return third(1)
		}
		return third(0)
	}
	return third(int64(m.Keys[0].Rights))
}

// Keys to try

func key(kind api.KeyKind, oid int, count int64) api.Key {
	return api.Key{Kind: kind, Oid: oid, Count: count}
}

func bare(kind api.KeyKind) api.Key { return api.Key{Kind: kind} }

func number(n int64) api.Key { return api.Key{Kind: 1, Value: n} }

func nodeKey(oid int, count int64) api.Key { return key(2, oid, count) }

func pageKey(oid int, count int64) api.Key { return key(3, oid, count) }

func bank(oid int, count int64) api.Key { return key(4, oid, count) }

func proc(oid int, count int64) api.Key { return key(5, oid, count) }

func start(oid int, count, badge int64) api.Key {
	return api.Key{Kind: 6, Oid: oid, Count: count, Value: badge}
}

func resume(oid int, count, call int64) api.Key {
	return api.Key{Kind: 7, Oid: oid, Count: count, Call: call}
}

func discrim() api.Key { return bare(8) }

func clock() api.Key { return bare(9) }

func check() api.Key { return bare(10) }

// with is a key with Rights.
func with(k api.Key, r api.Rights) api.Key {
	k.Rights = r
	return k
}

// naming are keys of each kind that names an object, of that Oid and Count; resume keys with that Call.
func naming(oid int, count, call int64) []api.Key {
	l := []api.Key{
		pageKey(oid, count), with(pageKey(oid, count), 1), bank(oid, count), proc(oid, count), start(oid, count, 0), start(oid, count, -9), resume(oid, count, call),
	}
	for r := range api.Rights(8) {
		l = append(l, with(nodeKey(oid, count), r))
	}
	return l
}

// ofNothing are keys of no object.
func ofNothing() []api.Key {
	return []api.Key{{}, number(0), number(1), number(5), number(-7), number(math.MaxInt64), number(math.MinInt64), discrim(), clock(), check()}
}

// noNumbers are keys that count in the town, of each kind but numbers.
func noNumbers() []api.Key {
	return []api.Key{{}, nodeKey(0, 3), with(nodeKey(9, 2), 7), pageKey(1, 5), with(pageKey(5, 2), 1), bank(2, 4), proc(3, 1), start(13, 6, 1), start(3, 1, -1), resume(14, 8, 9), discrim(), clock(), check()}
}

// stale are keys that may be in the town, and do not count: of each kind that names an object, by the Count, by the Call, by what the object is.
func stale() []api.Key {
	return slices.Concat(naming(0, 2, 7), naming(0, 4, 7), naming(3, 0, 0), naming(1, 4, 0), naming(6, 0, 0), naming(11, maxCount, 0), naming(7, maxCount, 0), []api.Key{
		resume(14, 8, 8), resume(14, 8, 10), resume(14, 8, 0), resume(1, 5, 0), pageKey(0, 3), pageKey(2, 4), with(pageKey(3, 1), 1), nodeKey(1, 5), with(nodeKey(15, maxCount), 3), bank(1, 5), bank(10, 1), proc(5, 2), start(10, 1, 3),
	})
}

// wrongKeys are keys that may not be, in whatever store; many of them are one that counts in the town but for one part.
func wrongKeys() []api.Key {
	return []api.Key{
		bare(-1), bare(-8), bare(11), bare(12), bare(256), bare(256 + 8), bare(math.MinInt), bare(math.MaxInt), key(-2, 0, 3), key(11, 0, 3), key(256+2, 0, 3), key(256+4, 2, 4),
		{Oid: 1}, {Count: 3}, {Call: 1}, {Rights: 1}, {Value: 1}, {Kind: 1, Oid: 1}, {Kind: 1, Count: 3}, {Kind: 1, Rights: 1}, {Kind: 1, Call: 1}, {Kind: 8, Oid: 1}, {Kind: 8, Value: 8}, {Kind: 9, Value: 1}, {Kind: 10, Rights: 2}, {Kind: 10, Count: 1},
		nodeKey(-1, 3), nodeKey(64, 3), nodeKey(256, 3), nodeKey(math.MaxInt, 3), nodeKey(math.MinInt, 3), nodeKey(0, -3), nodeKey(0, -1), nodeKey(0, maxCount+1), nodeKey(0, maxCount+4), nodeKey(0, math.MaxInt64), nodeKey(0, math.MinInt64),
		with(nodeKey(0, 3), 8), with(nodeKey(0, 3), -1), with(nodeKey(0, 3), math.MinInt), {Kind: 2, Count: 3, Call: 7}, {Kind: 2, Count: 3, Value: 1},
		with(pageKey(1, 5), 2), with(pageKey(1, 5), 4), with(pageKey(1, 5), 3), with(pageKey(1, 5), -1), {Kind: 3, Oid: 1, Count: 5, Value: 1}, pageKey(64, 5), pageKey(-1, 5), pageKey(1, maxCount+6),
		with(bank(2, 4), 1), bank(64, 4), bank(-2, 4), {Kind: 4, Oid: 2, Count: 4, Value: 2}, {Kind: 4, Oid: 2, Count: 4, Call: 1}, with(proc(3, 1), 4), proc(64, 1), proc(3, -1), {Kind: 5, Oid: 3, Count: 1, Value: 1},
		with(start(13, 6, 0), 1), start(64, 6, 0), start(-1, 6, 0), start(13, -6, 0), {Kind: 6, Oid: 13, Count: 6, Call: 1}, resume(14, 8, -1), resume(14, 8, maxCount+1), resume(14, 8, maxCount+10), resume(64, 8, 9), {Kind: 7, Oid: 14, Count: 8, Call: 9, Value: 1},
	}
}

// beyond are keys that may be, of objects that a store of n has not.
func beyond(n int) (l []api.Key) {
	for _, oid := range []int{n, n + 1, 63} {
		l = slices.Concat(l, naming(oid, 0, 0), naming(oid, 5, 7), naming(oid, maxCount, maxCount))
	}
	return l
}

// perKind are keys that count in the town, each kind that does orders, with each Rights.
func perKind() []api.Key {
	l := []api.Key{number(0), number(5), number(math.MinInt64), pageKey(1, 5), with(pageKey(1, 5), 1), bank(2, 4), bank(13, 6), proc(3, 1), proc(0, 3), proc(13, 6), proc(14, 8), discrim(), clock(), check()}
	for r := range api.Rights(8) {
		l = append(l, with(nodeKey(0, 3), r))
	}
	return append(l, nodeKey(9, 2))
}

// Numbers to try

// noCodes are those by which no key does anything, whatever it is.
func noCodes() []int64 {
	l := []int64{8, 9, 10, 11, 64, 127, 128, 240, 255, 1000, 1001, 1 << 31, 1<<31 - 1, math.MaxInt64, math.MaxInt64 - 1, math.MinInt64}
	for c := range int64(8) {
		l = append(l, -c-1, 256+c, 1<<32+c, -1<<32+c, math.MinInt64+c)
	}
	return l
}

// ns are numbers, of which some would be small, taken modulo what less bits hold, or with a number added.
func ns() []int64 {
	l := []int64{-64, -33, -32, 62, 63, 64, 65, 66, 96, 127, 128, 255, 1 << 15, 1 << 31, 1<<31 - 1, -1 << 31, math.MaxInt64 - 3, math.MaxInt64 - 4, math.MaxInt64 - 63, math.MaxInt64 - 64}
	for n := range int64(18) {
		l = append(l, n, -n-1, 256+n, 1<<32+n, -1<<32+n, 1<<62+n, math.MinInt64+n, math.MaxInt64-n)
	}
	for n := range int64(5) {
		l = append(l, 31+n, 1<<32+31+n, 1<<32+63+n)
	}
	return l
}

func rising(n int, from byte) string {
	b := make([]byte, n)
	for i := range b {
		b[i] = from + byte(i)
	}
	return string(b)
}

// Stores to try

// full is an object with something in each part that its kind may have.
func full(kind api.ObjKind, count, calls int64) api.Object {
	o := api.Object{Kind: kind, Count: count, Calls: calls}
	copy(o.Bytes[:], rising(64, byte(3*count+40)))
	if kind == aPage {
		return o
	}
	for slot := range o.Slots {
		o.Slots[slot] = []api.Key{number(int64(slot) - 30), start(0, 0, int64(slot)-8), with(nodeKey(0, count), 7), discrim(), resume(0, 1, calls)}[slot%5]
	}
	return o
}

func nodeOf(count, calls int64, l [16]api.Key) api.Object {
	o := full(aNode, count, calls)
	o.Slots = l
	return o
}

func page(count int64) api.Object { return full(aPage, count, 0) }

func none(kind api.ObjKind, count int64) api.Object { return api.Object{Kind: kind, Count: count} }

// bankOf is a node that is a bank of these Oids.
func bankOf(count, from, to int64) api.Object {
	o := full(aNode, count, 1)
	o.Slots[0], o.Slots[1] = number(from), number(to)
	return o
}

// hub is a node that has a key of each kind, of some kinds also one that does not count.
func hub() [16]api.Key {
	return [16]api.Key{
		number(5), bank(2, 4), {}, with(nodeKey(9, 2), 4), pageKey(1, 5), pageKey(1, 4), start(13, 6, -1), resume(14, 8, 9),
		discrim(), clock(), check(), proc(3, 1), with(nodeKey(9, 2), 2), resume(14, 8, 8), nodeKey(3, 1), number(-3),
	}
}

// runner is a process that runs; its space is the object 4.
func runner() [16]api.Key {
	return [16]api.Key{
		nodeKey(4, 7), {}, number(1), number(77), bank(2, 4), discrim(), number(8), nodeKey(9, 1),
		proc(3, 1), with(pageKey(5, 2), 1), resume(14, 8, 7), start(13, 6, 4), with(nodeKey(0, 3), 3), clock(), check(), resume(14, 8, 9),
	}
}

// tree is a space with pages in the slots 2 and 3, into the latter of which nothing may be written.
func tree() [16]api.Key {
	return [16]api.Key{2: pageKey(5, 2), 3: with(pageKey(1, 5), 1), 4: pageKey(1, 4), 5: number(1), 13: pageKey(15, maxCount), 14: start(13, 6, 0), 15: number(1)}
}

// town are objects of all kinds; the bank 2 has 6 to 12, the node 13 is neither a bank nor a process.
func town() world {
	return world{
		0:  nodeOf(3, 7, hub()),
		1:  page(5),
		2:  bankOf(4, 6, 12),
		3:  nodeOf(1, 0, runner()),
		4:  nodeOf(7, 1, tree()),
		5:  page(2),
		6:  none(free, 0),
		7:  none(free, maxCount),
		8:  none(free, 7),
		9:  full(aNode, 2, 3),
		10: page(1),
		11: none(retired, maxCount),
		12: none(free, 1),
		13: nodeOf(6, maxCount, [16]api.Key{0: number(3), 1: number(2), 2: number(3), 3: pageKey(1, 5)}),
		14: nodeOf(8, 9, [16]api.Key{0: pageKey(5, 2), 2: number(2)}),
		15: page(maxCount),
	}
}

// pair is a store, and beside it what it should have.
type pair struct {
	t    *testing.T
	s    *objects.Store
	want world
}

func pairOf(t *testing.T, w world) *pair {
	t.Helper()
	s, e := objects.Of(w...)
	if e != ok {
		t.Fatalf("no such store: %v", e)
	}
	return &pair{t: t, s: s, want: slices.Clone(w)}
}

// holds asks that the store has what it should, part by part and byte by byte.
func (p *pair) holds(what any) {
	p.t.Helper()
	if p.s.Size() != len(p.want) {
		p.t.Fatalf("%v: %d objects, want %d", what, p.s.Size(), len(p.want))
	}
	for oid, o := range p.s.All() {
		if o != p.want[oid] {
			p.t.Fatalf("%v: the object %d is %v, want %v", what, oid, o, p.want[oid])
		}
	}
}

// does asks that an order is answered as the document does, and that the store is as it should be behind it.
func (p *pair) does(x order) did {
	p.t.Helper()
	was, handed := slices.Clone(p.want), x
	want := p.want.do(x)
	d := x.of(p.s)
	if d != want {
		p.t.Fatalf("%v: %v, want %v", x, d, want)
	}
	if x != handed {
		p.t.Fatalf("%v was changed", handed)
	}
	p.holds(x)
	p.keeps(x, was, d)
	return d
}

// keeps asks what P14.2 and P14.3 say, and the chapter of what an answer has, by the store now and what it was ahead of it.
func (p *pair) keeps(x order, was world, d did) {
	p.t.Helper()
	if d.e != ok && d != (did{e: d.e}) || d.m.Code != 0 && d != (did{m: api.Message{Code: d.m.Code}}) {
		p.t.Fatalf("%v: beside an error: %v", x, d)
	}
	for oid, o := range p.s.All() {
		isRetired := x.key.Kind == 4 && x.m.Code <= 2 && was[oid] == none(free, maxCount) && o == none(retired, maxCount)
		if (d.e != ok || d.m.Code != 0) && o != was[oid] && !isRetired {
			p.t.Fatalf("%v: %v, and %d is %v, was %v", x, d, oid, o, was[oid])
		}
	}
	if d.m.Keys[1] != (api.Key{}) || d.m.Keys[2].Kind > 1 || !p.mayTell(x, was, d.m.Keys[0]) {
		p.t.Fatalf("%v: told is %v", x, d.m.Keys)
	}
}

// mayTell tells whether a key is within one that was handed in, or is there behind the order's key, or names what was made; by a full node key that is the node's own proc key, too, by a proc key its start keys.
func (p *pair) mayTell(x order, was world, k api.Key) bool {
	p.t.Helper()
	if k == (api.Key{}) {
		return true
	}
	if !was.counts(x.key) {
		return false
	}
	from := append(slices.Clone(x.m.Keys[:]), x.key)
	switch x.key.Kind {
	case 2:
		from = slices.Concat(from, was[x.key.Oid].Slots[:])
		if x.key.Rights == 0 {
			from = append(from, proc(x.key.Oid, x.key.Count))
		}
	case 5:
		from = append(slices.Concat(from, was[x.key.Oid].Slots[4:]), start(x.key.Oid, x.key.Count, k.Value))
	}
	for _, other := range from {
		if was.counts(other) && within(k, other) {
			return true
		}
	}
	o, e := p.s.Get(k.Oid)
	return x.key.Kind == 4 && isOfObject(k) && e == ok && was[k.Oid].Kind == free && o.Kind != free && o.Count == k.Count && o.Count == was[k.Oid].Count+1
}

// tells asks for just that answer, too.
func (p *pair) tells(x order, want did) {
	p.t.Helper()
	if d := p.does(x); d != want {
		p.t.Fatalf("%v: %v, want %v", x, d, want)
	}
}

func (p *pair) goes(x order) {
	p.t.Helper()
	p.tells(x, did{})
}

// refuses asks for just that answer, and that the store stays.
func (p *pair) refuses(x order, want did) {
	p.t.Helper()
	was := slices.Clone(p.want)
	p.tells(x, want)
	p.has(was...)
}

// fails asks for an error, beside which all is zero, and that the store stays.
func (p *pair) fails(x order, e api.Errno) {
	p.t.Helper()
	p.refuses(x, did{e: e})
}

// has asks for just those objects.
func (p *pair) has(l ...api.Object) {
	p.t.Helper()
	if !slices.Equal(p.want, l) {
		p.t.Fatalf("the store has %v, want %v", p.want, l)
	}
	p.holds("the store")
}

// set puts an object into the store by the store's own call.
func (p *pair) set(oid int, o api.Object) {
	p.t.Helper()
	if e := p.s.Put(oid, o); e != ok {
		p.t.Fatalf("the store takes no such object: %v", e)
	}
	p.want[oid] = o
}

func TestTheKeysToTryAreRight(t *testing.T) {
	w := town()
	for _, k := range wrongKeys() {
		if mayBe(k) {
			t.Errorf("%v may be", k)
		}
	}
	for _, k := range beyond(16) {
		if !mayBe(k) || w.mayHave(k) {
			t.Errorf("%v is no key of what the town has not", k)
		}
	}
	for _, k := range slices.Concat(ofNothing(), noNumbers(), perKind()) {
		if !w.counts(k) {
			t.Errorf("%v does not count", k)
		}
	}
	for _, k := range stale() {
		if !w.mayHave(k) || w.counts(k) {
			t.Errorf("%v counts, or may not be", k)
		}
	}
	if pairOf(t, w); len(w) != 16 {
		t.Errorf("the town has %d objects", len(w))
	}
}

// The chapter's examples

func TestTheChaptersExamples(t *testing.T) {
	five := number(5)
	p := pairOf(t, world{bankOf(1, 1, 2), {}, {}})
	p.refuses(by(five, 0), third(1))
	p.refuses(by(five, 1), third(5))
	p.refuses(by(five, 2), code(errOrder))
	p.tells(by(bank(0, 1), 1), first(nodeKey(1, 1)))
	p.has(bankOf(1, 1, 2), none(aNode, 1), api.Object{})
	p.refuses(byN(nodeKey(1, 1), 5, 1), first(with(nodeKey(1, 1), 1)))
	p.refuses(by(with(nodeKey(1, 1), 1), 3), code(errRight))
	p.goes(by(nodeKey(1, 1), 3))
	p.refuses(by(discrim(), 2, with(nodeKey(1, 1), 1), nodeKey(1, 1)), third(1))
	p.refuses(by(discrim(), 2, nodeKey(1, 1), with(nodeKey(1, 1), 1)), third(0))
}

// The whole's third example: what is destroyed, and made again, has no key that counts.
func TestDestroyedAndMadeAgain(t *testing.T) {
	p := pairOf(t, world{bankOf(1, 1, 1), {}})
	k, old, again := bank(0, 1), nodeKey(1, 1), nodeKey(1, 2)
	p.tells(by(k, 1), first(old))
	p.tells(by(old, 6), first(proc(1, 1)))
	p.goes(by(k, 3, old))
	p.tells(by(k, 1), first(again))
	for c := range int64(9) {
		p.refuses(byN(old, c, 1), code(errKey))
		p.refuses(byN(proc(1, 1), c, 1), code(errKey))
	}
	p.refuses(by(discrim(), 1, old), third(0))
	p.refuses(by(discrim(), 1, again), third(2))
	p.refuses(by(k, 3, old), code(errNone))
	p.has(bankOf(1, 1, 1), none(aNode, 2))
}

// The errors

func TestNoStore(t *testing.T) {
	for what, s := range map[string]*objects.Store{"nil": nil, "zero": {}} {
		for _, k := range slices.Concat(ofNothing(), perKind(), stale(), wrongKeys(), beyond(16), []api.Key{start(13, 6, 0), resume(14, 8, 9)}) {
			for _, now := range []int64{0, -1, math.MinInt64, math.MaxInt64} {
				for _, x := range []order{by(k, 0), by(k, 1), byN(k, 1, 0, k), by(k, 99, k, bare(-1)).with(rising(33, 0))} {
					if d := x.at(now).of(s); d != (did{e: errNil}) {
						t.Fatalf("a %s store: %v: %v", what, x, d)
					}
				}
			}
		}
		if s.Size() != 0 {
			t.Errorf("a %s store has %d objects", what, s.Size())
		}
	}
}

func TestKeysThatMayNotBe(t *testing.T) {
	p := pairOf(t, town())
	for _, k := range slices.Concat(wrongKeys(), beyond(16)) {
		for c := int64(-1); c < 10; c++ {
			p.fails(byN(k, c, 1), errArg)
			p.fails(byN(k, c, 1, k, k).with(rising(33, 1)).at(-1), errArg)
		}
		for at := range 3 {
			for _, asked := range []api.Key{{}, number(5), nodeKey(0, 3), with(nodeKey(0, 3), 1), pageKey(1, 5), bank(2, 4), proc(3, 1), start(13, 6, 0), resume(14, 8, 9), resume(14, 8, 8), discrim(), clock(), check()} {
				for _, c := range []int64{0, 1, 4, 9} {
					x := byN(asked, c, 1)
					x.m.Keys[at] = k
					p.fails(x, errArg)
				}
			}
		}
	}
	for n := 1; n <= 63; n++ { // a store of n has not the object n
		p, x := pairOf(t, make(world, n)), nodeKey(n, 0)
		p.fails(by(x, 0), errArg)
		p.fails(by(discrim(), 1, x), errArg)
		p.fails(by(discrim(), 1, api.Key{}, x), errArg)
		p.fails(by(discrim(), 1, api.Key{}, api.Key{}, x), errArg)
		p.refuses(by(nodeKey(n-1, 0), 0), code(errKey))
		p.refuses(by(discrim(), 1, nodeKey(n-1, 0), nodeKey(n-1, 0), nodeKey(n-1, 0)), third(0))
	}
}

func TestData(t *testing.T) {
	for _, k := range perKind() {
		for c := int64(-1); c < 9; c++ {
			for _, n := range []int{0, 1, 31, 32} {
				pairOf(t, town()).does(byN(k, c, 1).with(rising(n, 7)))
				pairOf(t, town()).does(by(k, c).with(strings.Repeat("\x00", n)))
			}
			for _, n := range []int{33, 34, 63, 64, 65, 255, 256, 257, 256 + 32, 1 << 16, 1<<16 + 1} {
				p := pairOf(t, town())
				p.fails(byN(k, c, 1).with(rising(n, 7)), errArg)
				p.fails(by(k, c).with(strings.Repeat("\x00", n)), errArg)
			}
		}
	}
	p := pairOf(t, town())
	for _, k := range []api.Key{{}, nodeKey(0, 2), start(13, 6, 0), resume(14, 8, 9)} { // ahead of what the key would tell
		p.fails(by(k, 1).with(rising(33, 0)), errArg)
	}
	for _, b := range []string{strings.Repeat("\u00e4", 17), strings.Repeat("\u20ac", 11), strings.Repeat("\xff", 33)} { // its bytes are many, whatever they spell
		p.fails(byN(number(5), 1, 1).with(b), errArg)
	}
	page := pageKey(5, 2)
	for _, b := range []string{"\x00\xff\xfe\x80", "\u00e4\u20ac", strings.Repeat("\xff", 32)} { // texts that are no UTF-8, too
		p.goes(byN(page, 2, 9).with(b))
		p.refuses(byN(page, 1, 9), text(b+string(p.want[5].Bytes[9+len(b):9+32])))
	}
}

func TestTimes(t *testing.T) {
	for _, k := range append(perKind(), api.Key{}, nodeKey(0, 2), start(13, 6, 0), resume(14, 8, 9), resume(14, 8, 8)) {
		for c := int64(-1); c < 9; c++ {
			p := pairOf(t, town())
			for _, now := range []int64{-1, -2, -1 << 32, -1<<32 + 5, math.MinInt64, math.MinInt64 + 1} {
				p.fails(byN(k, c, 1).at(now), errArg)
				p.fails(by(k, c).at(now), errArg)
			}
			for _, now := range []int64{0, 1, 1 << 32, 1 << 62, 1<<62 + 1, math.MaxInt64 - 1, math.MaxInt64} {
				p.does(byN(k, c, 1).at(now))
			}
		}
	}
}

func TestKeysOfParties(t *testing.T) {
	p := pairOf(t, town())
	counting := []api.Key{resume(14, 8, 9), resume(3, 1, 0), resume(0, 3, 7), resume(13, 6, maxCount)}
	for _, oid := range []int{0, 2, 3, 4, 9, 13, 14} { // whatever the node is, a process or none
		for _, badge := range []int64{0, 1, -1, 6, math.MaxInt64, math.MinInt64} {
			counting = append(counting, start(oid, p.want[oid].Count, badge))
		}
	}
	var old []api.Key
	for _, k := range stale() {
		if k.Kind == 6 || k.Kind == 7 {
			old = append(old, k)
		}
	}
	for _, c := range append(noCodes(), 0, 1, 2, 3, 4, 5, 6, 7) {
		for _, k := range counting {
			p.fails(by(k, c), errParty)
			p.fails(byN(k, c, 1, k, k).with(rising(32, 0)).at(math.MaxInt64), errParty)
			p.fails(by(k, c).at(-1), errArg)
			p.fails(by(k, c, k, nodeKey(16, 0)), errArg)
		}
		for _, k := range old {
			p.refuses(by(k, c), code(errKey))
			p.refuses(byN(k, c, 1, k, k), code(errKey))
		}
	}
	p.set(14, nodeOf(8, 10, [16]api.Key{})) // its Calls, and so which of its resume keys counts, go by the store
	p.refuses(by(resume(14, 8, 9), 0), code(errKey))
	p.fails(by(resume(14, 8, 10), 0), errParty)
}

// Where several of them could be told

func TestErrorsInTheirOrder(t *testing.T) {
	p := pairOf(t, town())
	party, long, old, wrong := start(13, 6, 0), rising(33, 0), nodeKey(0, 2), nodeKey(16, 0)
	for _, x := range []order{
		by(party, 0).with(long), by(party, 0).at(-1), by(party, 0, wrong), by(old, 0).with(long), by(old, 0).at(-1), by(old, 0, wrong), by(wrong, 99), by(wrong, 0, wrong).with(long).at(-1),
		by(check(), 1).at(-1), by(check(), 1, wrong), by(check(), 1).with(long), by(clock(), 1).at(math.MinInt64), by(pageKey(1, 5), 3, wrong), by(pageKey(1, 5), 3).at(-1), by(bank(2, 4), 6).at(-1), by(bank(2, 4), 1).with(long),
	} {
		p.fails(x, errArg)
	}
	// No order ahead of what a layer would refuse.
	weak, only := with(nodeKey(0, 3), 7), with(pageKey(1, 5), 1)
	for _, x := range []order{by(weak, 2), by(weak, 1), by(weak, 5), by(only, 2), by(only, 1), by(bank(13, 6), 4), by(proc(3, 1), 7), by(proc(3, 1), 5), by(weak, 7), by(bank(13, 6), 7)} {
		p.refuses(x, code(errOrder))
	}
	// Those of the layers in the layers' order.
	p.refuses(byN(weak, 2, 16), code(errRight))
	p.refuses(by(weak, 4), code(errRight))
	p.refuses(byN(only, 2, 65), code(errRight))
	p.refuses(by(only, 4), code(errRight))
	p.refuses(by(bank(13, 6), 3), code(errBank))
	p.refuses(byN(bank(13, 6), 4, 0), code(errBank))
	p.refuses(byN(bank(2, 4), 4, 7), code(errRange))
	p.refuses(byN(proc(13, 6), 6, -1), code(errRange))
	p.refuses(byN(proc(13, 6), 7, -1), code(errRange))
}

// Keys that do not count, Code 0

func TestVoidKeys(t *testing.T) {
	p := pairOf(t, town())
	for _, k := range append(stale(), api.Key{}) {
		for _, c := range append(noCodes(), 0, 1, 2, 3, 4, 5, 6, 7) {
			p.refuses(by(k, c), code(errKey))
			p.refuses(byN(k, c, 1, nodeKey(0, 3), nodeKey(0, 3)), code(errKey))
		}
	}
}

func TestCodeNought(t *testing.T) {
	for _, k := range perKind() {
		p := pairOf(t, town())
		for _, l := range append(noNumbers(), number(0), number(4), nodeKey(0, 2)) {
			x := by(k, 0, l, l, l)
			p.refuses(x, third(int64(k.Kind)))
			p.refuses(x.with(rising(32, 0)).at(math.MaxInt64), third(int64(k.Kind)))
		}
	}
	p := pairOf(t, town())
	for kind, k := range map[int64]api.Key{1: number(2), 2: nodeKey(0, 3), 3: pageKey(1, 5), 4: bank(2, 4), 5: proc(3, 1), 8: discrim(), 9: clock(), 10: check()} {
		p.refuses(by(k, 0), third(kind))
	}
}

// Which orders there are

func TestEachCode(t *testing.T) {
	for _, k := range perKind() {
		p, l := pairOf(t, town()), table()[k.Kind]
		for _, c := range noCodes() {
			p.refuses(by(k, c), code(errOrder))
			p.refuses(byN(k, c, 1, nodeKey(9, 2)), code(errOrder))
		}
		for c := int64(1); c < 8; c++ {
			for _, n := range []int64{0, 1, 2} {
				for _, about := range []api.Key{{}, number(3), nodeKey(9, 2), pageKey(10, 1)} {
					p := pairOf(t, town())
					d := p.does(byN(k, c, n, about))
					is := slices.Contains(l.plain, c) || slices.Contains(l.wantN, c)
					if is != (d.m.Code != int64(errOrder)) {
						t.Fatalf("%v: the order %d: %v", k, c, d)
					}
				}
			}
		}
	}
}

func TestWhereNIsWanted(t *testing.T) {
	p := pairOf(t, town())
	for _, k := range perKind() {
		for _, c := range table()[k.Kind].wantN {
			for _, l := range slices.Concat(noNumbers(), stale()) {
				p.refuses(by(k, c, number(1), number(1), l), code(errOrder))
				p.refuses(by(k, c, l, l, l).with("a"), code(errOrder))
			}
		}
	}
}

func TestWhereNIsNotWanted(t *testing.T) {
	for _, k := range perKind() {
		for _, c := range table()[k.Kind].plain {
			for _, about := range []api.Key{{}, nodeKey(9, 2), pageKey(10, 1), with(nodeKey(0, 3), 5)} {
				p := pairOf(t, town())
				want := p.does(by(k, c, about))
				behind := p.want
				for _, l := range slices.Concat(noNumbers(), stale(), []api.Key{number(0), number(1), number(-1), number(math.MaxInt64), number(math.MinInt64)}) {
					p := pairOf(t, town())
					p.tells(by(k, c, about, api.Key{}, l), want)
					p.has(behind...)
				}
			}
		}
	}
}

// Each order that wants n, at each of many numbers.
func TestEachN(t *testing.T) {
	for _, k := range perKind() {
		for _, c := range table()[k.Kind].wantN {
			for _, n := range ns() {
				for _, data := range []string{"", "a", rising(32, 90)} {
					pairOf(t, town()).does(byN(k, c, n, bank(2, 4)).with(data))
				}
			}
		}
	}
}

// ends are an order that wants n, the numbers from least to greatest at which it goes, and what it tells of others.
type ends struct {
	key             api.Key
	code            int64
	least, greatest int64
	want            did
}

func TestTheEndsOfN(t *testing.T) {
	for _, l := range []ends{
		{nodeKey(0, 3), 1, 0, 15, code(errRange)},
		{with(nodeKey(0, 3), 7), 1, 0, 15, code(errRange)},
		{nodeKey(0, 3), 2, 0, 15, code(errRange)},
		{nodeKey(0, 3), 5, 0, 7, code(errArg)},
		{with(nodeKey(0, 3), 7), 5, 0, 7, code(errArg)},
		{pageKey(1, 5), 1, 0, 64, code(errRange)},
		{pageKey(1, 5), 2, 0, 63, code(errRange)},
		{pageKey(1, 5), 5, 0, 7, code(errArg)},
		{bank(2, 4), 4, 1, 2, code(errRange)}, // 3 to 6 are ErrFull
		{proc(3, 1), 1, 0, 11, code(errRange)},
		{proc(3, 1), 2, 0, 11, code(errRange)},
		{proc(3, 1), 3, math.MinInt64, math.MaxInt64, did{}},
		{proc(3, 1), 5, 0, 2, code(errArg)},
	} {
		for _, n := range ns() {
			x := byN(l.key, l.code, n, number(9)).with("a")
			switch {
			case n >= l.least && n <= l.greatest:
				p := pairOf(t, town())
				if d := p.does(x); d.m.Code != 0 || d.e != ok {
					t.Fatalf("%v: %v", x, d)
				}
			case l.key.Kind == 4 && n > 0 && n < 7:
				pairOf(t, town()).refuses(x, code(errFull))
			default:
				pairOf(t, town()).refuses(x, l.want)
			}
		}
	}
}

// Numbers

func TestNumbers(t *testing.T) {
	p := pairOf(t, town())
	for _, n := range ns() {
		p.refuses(by(number(n), 1), third(n))
		p.refuses(byN(number(n), 1, 4, number(6), number(7)).with("x"), third(n))
		p.refuses(by(number(n), 0), third(1))
		p.refuses(by(number(n), n|8), code(errOrder))
	}
}

// Nodes

func TestNodeGet(t *testing.T) {
	p := pairOf(t, town())
	plain := hub()
	plain[5], plain[13] = api.Key{}, api.Key{} // they do not count
	weak := [16]api.Key{0: number(5), 3: with(nodeKey(9, 2), 7), 4: with(pageKey(1, 5), 1), 8: discrim(), 12: with(nodeKey(9, 2), 3), 14: with(nodeKey(3, 1), 3), 15: number(-3)}
	for r := range api.Rights(8) {
		want := plain
		if r&2 != 0 {
			want = weak
		}
		for slot, k := range want {
			p.refuses(byN(with(nodeKey(0, 3), r), 1, int64(slot)), first(k))
			p.refuses(byN(with(nodeKey(0, 3), r), 1, int64(slot), bank(2, 4), check()).with("x"), first(k))
		}
		for _, n := range []int64{-1, 16, -16, 1 << 32, math.MaxInt64, math.MinInt64} {
			p.refuses(byN(with(nodeKey(0, 3), r), 1, n), code(errRange))
		}
	}
}

func TestNodePut(t *testing.T) {
	plain := hub()
	plain[5], plain[13] = api.Key{}, api.Key{}
	for r := range api.Rights(8) {
		for _, n := range []int64{0, 1, 5, 7, 13, 14, 15} {
			for _, k := range slices.Concat(noNumbers(), stale()[:12], ofNothing()) {
				x := byN(with(nodeKey(0, 3), r), 2, n, k, number(8))
				p, w := pairOf(t, town()), town()
				if r&3 != 0 {
					p.refuses(x, code(errRight))
					continue
				}
				p.tells(x, first(plain[n]))
				w[0].Slots[n] = w.asItCounts(k)
				p.has(w...)
				p.refuses(byN(nodeKey(0, 3), 1, n), first(w[0].Slots[n]))
			}
		}
		for _, n := range []int64{-1, 16, 1 << 32, math.MaxInt64, math.MinInt64} {
			want := code(errRange)
			if r&3 != 0 {
				want = code(errRight)
			}
			pairOf(t, town()).refuses(byN(with(nodeKey(0, 3), r), 2, n, number(4)), want)
		}
	}
	p := pairOf(t, town()) // a key of the node itself, with more than there was
	p.tells(byN(nodeKey(9, 2), 2, 0, nodeKey(9, 2)), first(number(-30)))
	p.tells(byN(nodeKey(9, 2), 2, 0, number(1)), first(nodeKey(9, 2)))
}

func TestNodeClear(t *testing.T) {
	for r := range api.Rights(8) {
		p, w := pairOf(t, town()), town()
		if r&3 != 0 {
			p.refuses(by(with(nodeKey(0, 3), r), 3), code(errRight))
			continue
		}
		p.goes(by(with(nodeKey(0, 3), r), 3, bank(2, 4)).with("x"))
		w[0].Slots = [16]api.Key{}
		p.has(w...)
	}
}

func TestNodeClone(t *testing.T) {
	plain := hub()
	plain[5], plain[13] = api.Key{}, api.Key{}
	for r := range api.Rights(8) {
		for from := range api.Rights(8) {
			p, w := pairOf(t, town()), town()
			x := by(with(nodeKey(9, 2), r), 4, with(nodeKey(0, 3), from), nodeKey(3, 1))
			if r&3 != 0 {
				p.refuses(x, code(errRight))
				continue
			}
			p.goes(x)
			w[9].Slots = plain
			if from&2 != 0 {
				w[9].Slots = [16]api.Key{0: number(5), 3: with(nodeKey(9, 2), 7), 4: with(pageKey(1, 5), 1), 8: discrim(), 12: with(nodeKey(9, 2), 3), 14: with(nodeKey(3, 1), 3), 15: number(-3)}
			}
			p.has(w...)
		}
		for _, k := range slices.Concat(noNumbers(), stale(), ofNothing()) {
			if k.Kind == 2 && town().counts(k) {
				continue
			}
			want := code(errKey)
			if r&3 != 0 {
				want = code(errRight)
			}
			pairOf(t, town()).refuses(by(with(nodeKey(9, 2), r), 4, k, nodeKey(0, 3)), want)
		}
	}
}

func TestNodeLess(t *testing.T) {
	p := pairOf(t, town())
	for r := range api.Rights(8) {
		k := with(nodeKey(0, 3), r)
		for n := range api.Rights(8) {
			p.refuses(byN(k, 5, int64(n)), first(with(k, r|n)))
			p.refuses(byN(k, 5, int64(n), bank(2, 4), check()).with("x"), first(with(k, r|n)))
		}
		for _, n := range []int64{-1, 8, 9, -8, 256, 1 << 32, 1<<32 + 1, math.MaxInt64, math.MinInt64} {
			p.refuses(byN(k, 5, n), code(errArg))
		}
	}
}

func TestNodeAsProcess(t *testing.T) {
	p := pairOf(t, town())
	for _, oid := range []int{0, 2, 3, 4, 9, 13, 14} { // a process, or none
		k := nodeKey(oid, p.want[oid].Count)
		p.refuses(by(k, 6), first(proc(oid, k.Count)))
		p.refuses(byN(k, 6, 5, bank(2, 4)).with("x"), first(proc(oid, k.Count)))
		for r := api.Rights(1); r < 8; r++ {
			p.refuses(by(with(k, r), 6), code(errRight))
		}
	}
}

// Pages

func TestPageRead(t *testing.T) {
	w := town()
	p, b := pairOf(t, w), string(w[1].Bytes[:])
	for _, k := range []api.Key{pageKey(1, 5), with(pageKey(1, 5), 1)} {
		for n := range 65 {
			want := b[n:]
			if n <= 32 {
				want = b[n : n+32]
			}
			p.refuses(byN(k, 1, int64(n)), text(want))
			p.refuses(byN(k, 1, int64(n), bank(2, 4), number(3)).with("abc"), text(want))
		}
		for _, n := range []int64{-1, -2, -32, -64, 65, 66, 96, 97, 128, 256, 1 << 31, 1 << 32, 1<<32 + 1, math.MaxInt64, math.MaxInt64 - 64, math.MinInt64, math.MinInt64 + 64} {
			p.refuses(byN(k, 1, n), code(errRange))
		}
	}
	p.refuses(byN(pageKey(1, 5), 1, 62), text(b[62:]))
	p.refuses(byN(pageKey(1, 5), 1, 64), text(""))
}

func TestPageWrite(t *testing.T) {
	for n := range 33 {
		b := rising(n, byte(n+150))
		for _, at := range []int{0, 1, 31, 32, 33, 40, 62, 63, 64} {
			p, w := pairOf(t, town()), town()
			x := byN(pageKey(1, 5), 2, int64(at), nodeKey(0, 3)).with(b)
			if at+n > 64 {
				p.refuses(x, code(errRange))
				continue
			}
			p.goes(x)
			copy(w[1].Bytes[at:], b)
			p.has(w...)
		}
		p := pairOf(t, town())
		p.goes(byN(pageKey(1, 5), 2, int64(64-n)).with(b)) // up to the end
		for _, at := range []int64{int64(65 - n), 65, 64 + 1<<32, 1 << 32, -1, -32, int64(-n) - 1, math.MaxInt64, math.MaxInt64 - 31, math.MinInt64} {
			p.refuses(byN(pageKey(1, 5), 2, at).with(b), code(errRange))
		}
		for _, at := range []int64{0, 64, 65, -1} {
			p.refuses(byN(with(pageKey(1, 5), 1), 2, at).with(b), code(errRight))
		}
	}
}

func TestPageClearAndCopy(t *testing.T) {
	p, w := pairOf(t, town()), town()
	only := with(pageKey(1, 5), 1)
	p.refuses(by(only, 3), code(errRight))
	p.refuses(by(only, 4, pageKey(5, 2)), code(errRight))
	p.refuses(by(only, 4, api.Key{}), code(errRight))
	for _, k := range slices.Concat(noNumbers(), stale(), ofNothing()) {
		if k.Kind != 3 || !w.counts(k) {
			p.refuses(by(pageKey(1, 5), 4, k, pageKey(5, 2)), code(errKey))
		}
	}
	for _, from := range []api.Key{pageKey(5, 2), with(pageKey(10, 1), 1), pageKey(15, maxCount), pageKey(1, 5), with(pageKey(1, 5), 1)} {
		p.goes(by(pageKey(1, 5), 4, from, pageKey(10, 1)).with("x"))
		w[1].Bytes = w[from.Oid].Bytes
		p.has(w...)
	}
	p.goes(byN(pageKey(1, 5), 3, 9, pageKey(5, 2)).with("x"))
	w[1].Bytes = [64]byte{}
	p.has(w...)
}

func TestPageLess(t *testing.T) {
	p := pairOf(t, town())
	k := pageKey(1, 5)
	for n := range int64(8) {
		p.refuses(byN(k, 5, n), first(with(k, api.Rights(n%2))))
		p.refuses(byN(with(k, 1), 5, n), first(with(k, 1)))
	}
	for _, n := range []int64{-1, 8, 9, 256, 1 << 32, 1<<32 + 1, math.MaxInt64, math.MinInt64} {
		p.refuses(byN(k, 5, n), code(errArg))
		p.refuses(byN(with(k, 1), 5, n), code(errArg))
	}
	p.refuses(byN(k, 6, 0), code(errOrder))
}

// Banks

// notBanks are keys in the slots 0 and 1 of which no bank is, in a store of three.
func notBanks() [][2]api.Key {
	return [][2]api.Key{
		{}, {number(0)}, {{}, number(1)}, {number(1), number(0)}, {number(-1), number(2)}, {number(0), number(3)}, {number(3), number(3)}, {number(0), number(1 << 32)}, {number(1 << 32), number(1<<32 + 1)},
		{number(math.MinInt64), number(math.MaxInt64)}, {start(0, 1, 0), number(1)}, {number(0), start(0, 1, 1)}, {discrim(), number(1)}, {number(2), number(1)},
	}
}

func TestNoBanks(t *testing.T) {
	for _, l := range notBanks() {
		p := pairOf(t, world{nodeOf(1, 0, [16]api.Key{0: l[0], 1: l[1], 2: number(0), 3: number(2)}), {}, full(aNode, 1, 0)})
		for c := int64(1); c < 7; c++ {
			for _, about := range []api.Key{{}, nodeKey(2, 1), nodeKey(0, 1), number(1)} {
				p.refuses(byN(bank(0, 1), c, 1, about), code(errBank))
			}
		}
		p.refuses(by(bank(0, 1), 0), third(4))
		p.refuses(by(bank(0, 1), 7), code(errOrder))
		p.refuses(by(bank(0, 1), 4), code(errOrder))
		p.refuses(by(nodeKey(0, 1), 0), third(2)) // what is no bank is a node as any
	}
}

// A bank that is one no more.
func TestABankNoMore(t *testing.T) {
	p := pairOf(t, town())
	p.tells(by(bank(2, 4), 1), first(nodeKey(6, 1)))
	p.tells(byN(nodeKey(2, 4), 2, 1, number(5)), first(number(12)))
	for c := int64(1); c < 7; c++ {
		p.refuses(byN(bank(2, 4), c, 1, nodeKey(9, 2)), code(errBank))
	}
	p.tells(byN(nodeKey(2, 4), 2, 1, number(12)), first(number(5)))
	p.tells(by(bank(2, 4), 2), first(pageKey(8, 8)))
	p.goes(by(nodeKey(2, 4), 3))
	p.refuses(by(bank(2, 4), 6), code(errBank))
}

func TestMakeUpToTheLast(t *testing.T) {
	w := world{bankOf(1, 1, 6), none(free, 0), none(free, maxCount), page(3), none(free, maxCount-1), none(free, maxCount), none(retired, 9), none(free, 5)}
	p := pairOf(t, w)
	k := bank(0, 1)
	p.tells(byN(k, 1, 9, nodeKey(0, 1)).with("x"), first(nodeKey(1, 1)))
	w[1] = none(aNode, 1)
	p.has(w...)
	p.tells(by(k, 2, nodeKey(0, 1)), first(pageKey(4, maxCount)))
	w[2], w[4] = none(retired, maxCount), none(aPage, maxCount)
	p.has(w...)
	p.tells(by(k, 1), code(errFull)) // 5 is retired by it
	w[5] = none(retired, maxCount)
	p.has(w...)
	p.refuses(by(k, 1), code(errFull))
	p.refuses(by(k, 2), code(errFull))
	p.goes(by(k, 3, pageKey(4, maxCount)))
	p.tells(by(k, 2), code(errFull)) // now 4 is
	w[4] = none(retired, maxCount)
	p.has(w...)
	p.goes(by(k, 3, nodeKey(1, 1)))
	p.tells(by(k, 2), first(pageKey(1, 2)))
	w[1] = none(aPage, 2)
	p.has(w...)
}

func TestMakeInTheTown(t *testing.T) {
	for kind, c := range map[api.KeyKind]int64{2: 1, 3: 2} {
		p, w := pairOf(t, town()), town()
		p.tells(by(bank(2, 4), c), first(key(kind, 6, 1)))
		p.tells(by(bank(2, 4), c), first(key(kind, 8, 8)))
		p.tells(by(bank(2, 4), c), first(key(kind, 12, 2)))
		p.refuses(by(bank(2, 4), 1), code(errFull))
		p.refuses(by(bank(2, 4), 2), code(errFull))
		for oid, count := range map[int]int64{6: 1, 8: 8, 12: 2} {
			w[oid] = none(api.ObjKind(kind)-1, count)
		}
		w[7] = none(retired, maxCount)
		p.has(w...)
	}
}

func TestDestroy(t *testing.T) {
	w := town()
	w[10] = bankOf(1, 8, 12) // a bank of what it lies in
	for _, k := range []api.Key{bank(2, 4), bank(10, 1)} {
		from, to := 6, 12
		if k.Oid == 10 {
			from = 8
		}
		for _, about := range slices.Concat(naming(9, 2, 3), naming(10, 1, 1), naming(1, 5, 0), naming(2, 4, 1), naming(0, 3, 7), stale(), ofNothing()) {
			p, behind := pairOf(t, w), slices.Clone(w)
			x := byN(k, 3, 1, about, nodeKey(9, 2)).with("x")
			switch {
			case about.Kind != 2 && about.Kind != 3 || !w.counts(about):
				p.refuses(x, code(errNone))
			case about.Oid < from || about.Oid > to || about.Oid == k.Oid:
				p.refuses(x, code(errRange))
			default:
				p.goes(x)
				behind[about.Oid] = none(free, about.Count)
				p.has(behind...)
				p.refuses(x, code(errNone))
			}
		}
	}
}

func TestSplit(t *testing.T) {
	w := world{bankOf(1, 1, 5), none(free, maxCount), none(free, 2), page(1), none(free, 0), none(retired, 7)}
	k := bank(0, 1)
	for _, n := range []int64{1, 2} {
		p, behind := pairOf(t, w), slices.Clone(w)
		p.tells(byN(k, 4, n, nodeKey(0, 1)).with("x"), first(bank(2, 3)))
		behind[0].Slots[1] = number(5 - n)
		behind[1] = none(retired, maxCount)
		behind[2] = api.Object{Kind: aNode, Count: 3, Slots: [16]api.Key{0: number(6 - n), 1: number(5)}}
		p.has(behind...)
		p.refuses(by(bank(2, 3), 5, bank(2, 3)), third(0))
		p.refuses(by(k, 5, bank(2, 3)), third(1))
	}
	for _, n := range []int64{3, 4} { // a page, the new node are among them: what was retired for it is free again
		pairOf(t, w).refuses(byN(k, 4, n), code(errFull))
	}
	for _, n := range []int64{0, -1, -5, 5, 6, 64, 256 + 1, 1 << 32, 1<<32 + 1, math.MaxInt64, math.MinInt64, math.MinInt64 + 1} {
		pairOf(t, w).refuses(byN(k, 4, n), code(errRange))
	}
	all := world{bankOf(1, 0, 2), none(retired, 1), page(1)} // nothing to be made
	pairOf(t, all).refuses(byN(k, 4, 1), code(errFull))
	all[2] = none(free, maxCount)
	pairOf(t, all).refuses(byN(k, 4, 1), code(errFull))
}

func TestOwns(t *testing.T) {
	p := pairOf(t, town())
	k := bank(2, 4)
	for _, about := range slices.Concat(naming(9, 2, 3), naming(10, 1, 0)) {
		var want int64
		if p.want.counts(about) {
			want = 1
		}
		p.refuses(by(k, 5, about), third(want))
		p.refuses(byN(k, 5, 7, about, pageKey(10, 1)).with("x"), third(want))
	}
	p.refuses(by(k, 5, nodeKey(9, 2)), third(1))
	p.refuses(by(k, 5, with(nodeKey(9, 2), 7)), third(1))
	p.refuses(by(k, 5, pageKey(10, 1)), third(1))
	for _, about := range slices.Concat(naming(0, 3, 7), naming(1, 5, 0), naming(2, 4, 1), naming(13, 6, maxCount), stale(), ofNothing()) {
		p.refuses(by(k, 5, about, nodeKey(9, 2)), third(0))
	}
}

func TestRaze(t *testing.T) {
	p, w := pairOf(t, town()), town()
	p.tells(byN(bank(2, 4), 6, 3, nodeKey(0, 3)).with("x"), third(2))
	w[9], w[10] = none(free, 2), none(free, 1)
	p.has(w...)
	p.tells(by(bank(2, 4), 6), third(0))
	p.has(w...)
	own := world{full(aNode, 3, 0), bankOf(1, 0, 3), page(4), full(aNode, 2, 2), page(1)} // it lies in itself
	p = pairOf(t, own)
	p.tells(by(bank(1, 1), 6), third(3))
	own[0], own[2], own[3] = none(free, 3), none(free, 4), none(free, 2)
	p.has(own...)
	every := slices.Repeat(world{page(1)}, 64)
	every[63] = bankOf(1, 0, 63)
	pairOf(t, every).tells(by(bank(63, 1), 6), third(63))
}

// Processes

func TestRegisters(t *testing.T) {
	plain := runner()
	plain[7], plain[10] = api.Key{}, api.Key{} // they do not count
	for _, about := range slices.Concat(noNumbers(), stale()[:12], ofNothing()) {
		p := pairOf(t, town())
		for n := range int64(12) {
			p.refuses(byN(proc(3, 1), 1, n, about, check()).with("x"), first(plain[4+n]))
			w := town()
			p := pairOf(t, w)
			p.tells(byN(proc(3, 1), 2, n, about, check()).with("x"), first(plain[4+n]))
			w[3].Slots[4+n] = w.asItCounts(about)
			p.has(w...)
			p.refuses(byN(proc(3, 1), 1, n), first(w[3].Slots[4+n]))
		}
		for _, n := range []int64{-1, -2, -3, -4, -5, -16, 12, 13, 16, 256, 1 << 32, 1<<32 + 3, -1 << 32, math.MaxInt64, math.MaxInt64 - 4, math.MinInt64, math.MinInt64 + 4} {
			p.refuses(byN(proc(3, 1), 1, n, about), code(errRange))
			p.refuses(byN(proc(3, 1), 2, n, about), code(errRange))
		}
	}
}

// Any node has registers, a process or none.
func TestRegistersOfEachNode(t *testing.T) {
	for _, oid := range []int{0, 2, 3, 4, 9, 13, 14} {
		p, w := pairOf(t, town()), town()
		k := proc(oid, w[oid].Count)
		for n := range int64(12) {
			p.tells(byN(k, 2, n, number(n)), first(w.asItCounts(w[oid].Slots[4+n])))
			w[oid].Slots[4+n] = number(n)
			p.has(w...)
			p.refuses(byN(k, 1, n), first(number(n)))
		}
	}
}

func TestStartKeys(t *testing.T) {
	p := pairOf(t, town())
	for _, oid := range []int{0, 2, 3, 4, 9, 13, 14} {
		k := proc(oid, p.want[oid].Count)
		for _, badge := range append(ns(), 0, -1, math.MaxInt64, math.MinInt64) {
			p.refuses(byN(k, 3, badge), first(start(oid, k.Count, badge)))
			p.refuses(byN(k, 3, badge, bank(2, 4), check()).with("x"), first(start(oid, k.Count, badge)))
		}
	}
}

func TestStates(t *testing.T) {
	for _, k := range slices.Concat(ofNothing(), naming(0, 1, 4), []api.Key{number(0), number(1), number(2), number(3), number(-1), number(1 << 32), number(1<<32 + 1), start(0, 1, 1), start(0, 2, 1)}) {
		want := int64(-1)
		if k.Kind == 1 && k.Value >= 0 && k.Value <= 2 {
			want = k.Value
		}
		p := pairOf(t, world{nodeOf(1, 4, [16]api.Key{1: number(1), 2: k, 3: number(2)})})
		p.refuses(by(proc(0, 1), 4), third(want))
		p.refuses(byN(proc(0, 1), 4, 2, number(1)).with("x"), third(want))
	}
	p := pairOf(t, town())
	for oid, want := range map[int]int64{0: -1, 2: -1, 3: 1, 4: -1, 9: -1, 13: -1, 14: 2} {
		p.refuses(by(proc(oid, p.want[oid].Count), 4), third(want))
	}
}

func TestBecome(t *testing.T) {
	for _, oid := range []int{0, 2, 3, 4, 9, 13, 14} {
		p, w := pairOf(t, town()), town()
		k := proc(oid, w[oid].Count)
		for _, n := range []int64{0, 1, 2, 2, 0, 2, 1, 0} {
			p.goes(byN(k, 5, n, number(1)).with("x"))
			w[oid].Slots[2] = number(n)
			p.has(w...)
			p.refuses(by(k, 4), third(n))
		}
		for _, n := range []int64{-1, 3, 4, -2, 256, 257, 1 << 32, 1<<32 + 1, -1 << 32, math.MaxInt64, math.MinInt64, math.MinInt64 + 1} {
			p.refuses(byN(k, 5, n), code(errArg))
		}
	}
}

// Spaces of processes

func TestLoadAndStore(t *testing.T) {
	w := town()
	p, k := pairOf(t, w), proc(3, 1)
	b := string(w[5].Bytes[:])
	for at := range 64 {
		if at > 32 {
			p.refuses(byN(k, 6, int64(128+at)), fault(5))
			continue
		}
		p.refuses(byN(k, 6, int64(128+at), bank(2, 4), check()).with("x"), text(b[at:at+32]))
	}
	for n := range 33 {
		for _, at := range []int{0, 1, 32, 33, 62, 63} {
			p, w := pairOf(t, town()), town()
			x := byN(k, 7, int64(128+at), bank(2, 4), check()).with(rising(n, 170))
			if at+n > 64 {
				p.refuses(x, fault(5))
				continue
			}
			p.goes(x)
			copy(w[5].Bytes[at:], rising(n, 170))
			p.has(w...)
		}
	}
	p.refuses(byN(k, 6, 192), text(string(w[1].Bytes[:32]))) // by a read-only key
	p.refuses(byN(k, 7, 192).with("a"), fault(6))
	p.refuses(byN(k, 7, 192), fault(6))
	p.refuses(byN(k, 7, 255).with("ab"), fault(5)) // ahead of what the key may
	p.refuses(byN(k, 6, 13*64+32), text(string(w[15].Bytes[32:])))
	for at, n := range map[int64]int64{0: 1, 64: 1, 127: 1, 256: 1, 320: 1, 383: 1, 14 * 64: 2, 15 * 64: 2, 1 << 32: 2, math.MaxInt64: 2} {
		p.refuses(byN(k, 6, at), fault(n))
		p.refuses(byN(k, 7, at).with("a"), fault(n))
	}
	for _, at := range []int64{-1, -128, -1 << 32, math.MinInt64, math.MinInt64 + 128} {
		p.refuses(byN(k, 6, at), code(errRange))
		p.refuses(byN(k, 7, at).with("a"), code(errRange))
	}
	p.goes(byN(k, 7, 128).with("abc"))
	p.refuses(byN(k, 6, 128), text("abc"+b[3:32]))
	p.refuses(byN(pageKey(5, 2), 1, 0), text("abc"+b[3:32]))
}

// A page is a space, too.
func TestLoadAndStoreOfAPage(t *testing.T) {
	p, w := pairOf(t, town()), town()
	b := string(w[5].Bytes[:])
	p.refuses(byN(proc(14, 8), 6, 0), text(b[:32]))
	p.refuses(byN(proc(14, 8), 6, 32), text(b[32:]))
	p.refuses(byN(proc(14, 8), 6, 33), fault(5))
	p.refuses(byN(proc(14, 8), 6, 64), fault(2))
	p.refuses(byN(proc(14, 8), 7, 64), fault(2))
	p.refuses(byN(proc(14, 8), 7, 63).with("ab"), fault(5))
	p.goes(byN(proc(14, 8), 7, 62).with("ab"))
	copy(w[5].Bytes[62:], "ab")
	p.has(w...)
}

// spaced is a process, or none, whose slot 0 is a key, with two pages, and a tree behind it.
func spaced(k api.Key) world {
	return world{
		nodeOf(1, 4, [16]api.Key{0: k, 1: pageKey(1, 5), 4: pageKey(1, 5)}), page(5), page(2),
		nodeOf(1, 0, [16]api.Key{0: pageKey(1, 5), 1: with(pageKey(2, 2), 1), 2: with(nodeKey(4, 1), 1), 3: with(nodeKey(4, 1), 2), 4: nodeKey(5, 1), 5: nodeKey(3, 1), 6: nodeKey(6, 1), 7: with(nodeKey(4, 1), 4), 8: nodeKey(4, 1), 15: number(2)}),
		nodeOf(1, 0, [16]api.Key{0: pageKey(2, 2), 13: pageKey(1, 5), 15: number(1)}),
		nodeOf(1, 0, [16]api.Key{0: pageKey(2, 2)}),
		nodeOf(1, 0, [16]api.Key{0: pageKey(2, 2), 15: number(2)}),
	}
}

func TestSpacesWithoutOne(t *testing.T) {
	for _, k := range slices.Concat(ofNothing(), []api.Key{bank(0, 1), proc(0, 1), start(0, 1, 0), resume(0, 1, 4), nodeKey(0, 0), nodeKey(1, 5), pageKey(0, 1), pageKey(1, 4), with(pageKey(1, 4), 1), resume(0, 1, 3)}) {
		p := pairOf(t, spaced(k))
		for _, at := range []int64{0, 1, 64, 1 << 32, math.MaxInt64} {
			p.refuses(byN(proc(0, 1), 6, at), fault(1))
			p.refuses(byN(proc(0, 1), 7, at).with("a"), fault(1))
		}
		p.refuses(byN(proc(0, 1), 6, -1), code(errRange))
		p.refuses(byN(proc(0, 1), 7, -1), code(errRange))
	}
}

func TestEachFault(t *testing.T) {
	const part = 64 * 16
	for r := range api.Rights(8) {
		p, k := pairOf(t, spaced(with(nodeKey(3, 1), r))), proc(0, 1)
		for _, x := range []struct{ at, load, store int64 }{
			{0, 0, 0}, {32, 0, 0}, {63, 5, 0}, {64, 2, 2}, {part, 0, 6}, {2 * part, 0, 6}, {3 * part, 0, 6}, {4 * part, 4, 4}, {5 * part, 4, 4}, {6 * part, 4, 4}, {7 * part, 0, 0},
			{8 * part, 0, 0}, {8*part + 13*64, 0, 0}, {8*part + 14*64, 2, 2}, {8*part + 64, 1, 1}, {9 * part, 1, 1}, {14 * part, 2, 2}, {math.MaxInt64, 2, 2},
		} {
			load, store := p.does(byN(k, 6, x.at)), x.store
			if r&3 != 0 && store == 0 {
				store = 6
			}
			if x.load != 0 && load != fault(x.load) || x.load == 0 && (load.m.Code != 0 || len(load.m.Data) != 32) {
				t.Fatalf("at %d, rights %d: %v", x.at, r, load)
			}
			want := did{}
			if store != 0 {
				want = fault(store)
			}
			p.tells(byN(k, 7, x.at).with("\xee"), want)
		}
	}
}

// Nodes of the heights 8 to 1, and one more node behind them.
func TestAFaultOfDepth(t *testing.T) {
	w := world{nodeOf(1, 0, [16]api.Key{0: nodeKey(1, 1)})}
	for h := int64(8); h > 0; h-- {
		w = append(w, nodeOf(1, 0, [16]api.Key{0: nodeKey(10-int(h), 1), 1: pageKey(10, 1), 15: number(h)}))
	}
	w = append(w, nodeOf(1, 0, [16]api.Key{0: pageKey(10, 1), 15: number(1)}), page(1))
	p := pairOf(t, w)
	p.refuses(byN(proc(0, 1), 6, 0), fault(3))
	p.refuses(byN(proc(0, 1), 7, 0).with("a"), fault(3))
	p.refuses(byN(proc(0, 1), 6, 64), text(string(w[10].Bytes[:32])))
	p.goes(byN(proc(0, 1), 7, 64).with("a"))
	p.goes(byN(proc(0, 1), 7, 64<<28).with("b")) // in the first node's slot 1
	w[10].Bytes[0] = 'b'
	p.has(w...)
}

// A space is got anew at each order.
func TestTheSpaceIsInSlotNought(t *testing.T) {
	p := pairOf(t, spaced(pageKey(1, 5)))
	for slot := int64(15); slot > 0; slot-- {
		p.does(byN(nodeKey(0, 1), 2, slot, pageKey(2, 2)))
		p.tells(byN(proc(0, 1), 6, 0), text(string(p.want[1].Bytes[:32])))
	}
	p.tells(byN(nodeKey(0, 1), 2, 0, with(pageKey(2, 2), 1)), first(pageKey(1, 5)))
	p.tells(byN(proc(0, 1), 6, 0), text(string(p.want[2].Bytes[:32])))
	p.refuses(byN(proc(0, 1), 7, 0).with("a"), fault(6))
	p.set(2, page(3))
	p.refuses(byN(proc(0, 1), 6, 0), fault(1))
}

// Discrim, clock, check

func TestDiscrim(t *testing.T) {
	p, w := pairOf(t, town()), town()
	for _, k := range slices.Concat(noNumbers(), ofNothing(), naming(0, 3, 7), naming(1, 5, 0)) {
		if w.counts(k) {
			p.refuses(by(discrim(), 1, k), third(int64(k.Kind)))
			p.refuses(byN(discrim(), 1, 7, k, number(4)).with("x"), third(int64(k.Kind)))
			p.refuses(by(discrim(), 3, k), third(int64(k.Rights)))
			p.refuses(byN(discrim(), 3, 7, k, with(nodeKey(9, 2), 5)).with("x"), third(int64(k.Rights)))
		}
	}
	for _, k := range stale() {
		p.refuses(by(discrim(), 1, k, number(1)), third(0))
		p.refuses(by(discrim(), 3, k, with(nodeKey(9, 2), 5)), third(0))
	}
	for r := range api.Rights(8) {
		p.refuses(by(discrim(), 3, with(nodeKey(0, 3), r)), third(int64(r)))
	}
}

func TestWithin(t *testing.T) {
	p, w := pairOf(t, town()), town()
	l := slices.Concat(noNumbers(), ofNothing(), naming(0, 3, 7), naming(9, 2, 3), naming(1, 5, 0), stale()[:20])
	for _, a := range l {
		for _, b := range l {
			var want int64
			if within(w.asItCounts(a), w.asItCounts(b)) {
				want = 1
			}
			p.refuses(by(discrim(), 2, a, b), third(want))
			p.refuses(byN(discrim(), 2, 1, a, b).with("x"), third(want))
		}
	}
	for a := range api.Rights(8) {
		for b := range api.Rights(8) {
			var want int64
			if a|b == a {
				want = 1
			}
			p.refuses(by(discrim(), 2, with(nodeKey(0, 3), a), with(nodeKey(0, 3), b)), third(want))
			p.refuses(by(discrim(), 2, with(nodeKey(0, 3), a), with(nodeKey(9, 2), b)), third(0))
		}
	}
	p.refuses(by(discrim(), 2, nodeKey(0, 2), nodeKey(0, 3)), third(1)) // as the void key
	p.refuses(by(discrim(), 2, nodeKey(0, 3), nodeKey(0, 2)), third(0))
	p.refuses(by(discrim(), 2, nodeKey(0, 2), nodeKey(1, 9)), third(1)) // both are
	p.refuses(by(discrim(), 2, with(pageKey(1, 5), 1), pageKey(1, 5)), third(1))
	p.refuses(by(discrim(), 2, pageKey(1, 5), with(pageKey(1, 5), 1)), third(0))
}

func TestClock(t *testing.T) {
	p := pairOf(t, town())
	for _, now := range []int64{0, 1, 2, 255, 256, 1 << 31, 1 << 32, 1<<32 + 9, 1 << 40, 1 << 62, math.MaxInt64 - 1, math.MaxInt64} {
		p.refuses(by(clock(), 1).at(now), third(now))
		p.refuses(byN(clock(), 1, 77, number(6), number(5)).with("x").at(now), third(now))
		p.refuses(by(clock(), 0).at(now), third(9))
		p.refuses(by(clock(), 2).at(now), code(errOrder))
	}
}

// A checkpoint is wanted by the order 1 of a check key alone.
func TestCheck(t *testing.T) {
	p := pairOf(t, town())
	for _, now := range []int64{0, 1, math.MaxInt64} {
		p.refuses(by(check(), 1).at(now), did{wants: true})
		p.refuses(byN(check(), 1, 5, nodeKey(0, 3), nodeKey(0, 2)).with("x").at(now), did{wants: true})
	}
	p.refuses(by(check(), 0), third(10))
	for _, c := range append(noCodes(), 2, 3, 4, 5, 6, 7) {
		p.refuses(by(check(), c), code(errOrder))
	}
	for _, k := range perKind() {
		for c := int64(-1); c < 10; c++ {
			if x := byN(k, c, 1, check(), check()); pairOf(t, town()).does(x).wants != (k == check() && c == 1) {
				t.Errorf("%v: a checkpoint is wanted, or not", x)
			}
		}
	}
}

// What is told goes on apart

func TestWhatIsToldGoesOnApart(t *testing.T) {
	p := pairOf(t, town())
	b := string(p.want[5].Bytes[:32])
	page := byN(pageKey(5, 2), 1, 0).of(p.s)
	space := byN(proc(3, 1), 6, 128).of(p.s)
	slot := byN(nodeKey(0, 3), 1, 0).of(p.s)
	p.goes(by(pageKey(5, 2), 3))
	p.goes(by(nodeKey(0, 3), 3))
	if page != text(b) || space != text(b) || slot != first(number(5)) {
		t.Errorf("what was told was changed: %v, %v, %v", page, space, slot)
	}
	slot.m.Keys[0] = number(99)
	p.holds("an answer was changed")
}

// What was handed in is not kept: an answer, and what was put, go by the store alone.
func TestOrdersGoByTheStore(t *testing.T) {
	p := pairOf(t, town())
	p.does(byN(nodeKey(0, 3), 2, 4, pageKey(1, 5)))
	p.tells(byN(nodeKey(0, 3), 1, 4), first(pageKey(1, 5)))
	p.set(1, page(6))
	p.tells(byN(nodeKey(0, 3), 1, 4), first(api.Key{}))
	p.tells(by(pageKey(1, 5), 0), code(errKey))
	p.tells(by(pageKey(1, 6), 0), third(3))
	p.set(0, none(free, 3))
	p.tells(by(nodeKey(0, 3), 0), code(errKey))
	p.tells(by(bank(2, 4), 1), first(nodeKey(6, 1)))
	p.set(6, none(free, 0)) // as if nothing had been made
	p.tells(by(bank(2, 4), 1), first(nodeKey(6, 1)))
}

// Each of two stores is asked by itself.
func TestStoresGoOnApart(t *testing.T) {
	a, b := pairOf(t, town()), pairOf(t, town())
	c := &pair{t: t, s: a.s.Copy(), want: town()}
	a.goes(by(nodeKey(0, 3), 3))
	b.does(by(bank(2, 4), 6))
	a.holds("another store was changed")
	b.holds("another store was changed")
	c.holds("a copy was changed")
	c.goes(byN(pageKey(1, 5), 2, 0).with("c"))
	c.does(by(bank(2, 4), 1))
	a.holds("the first one of a copy was changed")
}

// P14.2: by a weak key nothing is come to but by weak ones, however far one goes on by what is told.
func TestWhatIsToldByWeakKeys(t *testing.T) {
	p := pairOf(t, town())
	told := []api.Key{with(nodeKey(0, 3), 2)}
	for i := 0; i < len(told); i++ {
		for c := range int64(8) {
			for n := range int64(16) {
				for _, about := range []api.Key{{}, number(1), told[0]} {
					k := p.does(byN(told[i], c, n, about)).m.Keys[0]
					if k.Kind == 2 && k.Rights&2 == 0 || k.Kind == 3 && k.Rights&1 == 0 || k.Kind > 3 && k.Kind != 8 {
						t.Fatalf("%v by %v", k, told[i])
					}
					if k.Kind != 0 && !slices.Contains(told, k) {
						told = append(told, k)
					}
				}
			}
		}
	}
	p.has(town()...)
	if len(told) < 10 {
		t.Errorf("by weak keys are come to %v alone", told)
	}
}

// All that may be asked, and may not: no order gives up, and each is answered as the document does.
func TestAllThatMayBeAsked(t *testing.T) {
	about := slices.Concat(noNumbers(), stale()[:4], []api.Key{number(1), with(nodeKey(0, 3), 5), pageKey(10, 1), nodeKey(9, 2), bare(-1), nodeKey(16, 0)})
	thirds := slices.Concat(noNumbers()[:4], []api.Key{number(0), number(1), number(2), number(7), number(11), number(15), number(64), number(128), number(-1), number(math.MaxInt64), number(math.MinInt64), bare(11), nodeKey(0, 2)})
	p := pairOf(t, town())
	for _, k := range slices.Concat(perKind(), stale()[:3], wrongKeys()[:6], beyond(16)[:3], []api.Key{{}, start(13, 6, 0), resume(14, 8, 9), resume(14, 8, 8)}) {
		for c := int64(-1); c < 9; c++ {
			for i, a := range about {
				for j, n := range thirds {
					x := by(k, c, a, about[(i+j)%len(about)], n).with(rising((i+j)%34, byte(i)))
					p.does(x)
					if !slices.Equal(p.want, town()) {
						p = pairOf(t, town())
					}
				}
			}
		}
	}
	for _, c := range noCodes() {
		for _, k := range slices.Concat(perKind(), stale(), wrongKeys()) {
			for _, now := range []int64{0, -1, math.MaxInt64, math.MinInt64} {
				p.does(byN(k, c, c).at(now))
			}
		}
	}
}

// Many orders in no order

// chance is numbers that are the same each time.
func chance(from uint32) func(n int) int {
	return func(n int) int {
		from = from*1664525 + 1013904223
		return int(from>>8) % n
	}
}

func pick[T any](next func(n int) int, l []T) T { return l[next(len(l))] }

// someWorld has a bank of most of it in 0, and in 1 a process.
func someWorld(next func(n int) int, n int) world {
	w := world{bankOf(1, 2, int64(n)-1), nodeOf(1, 0, runner())}
	for oid := range w[1].Slots {
		w[1].Slots[oid] = api.Key{}
	}
	for len(w) < n {
		count := pick(next, []int64{0, 0, 1, 2, 7, maxCount - 2, maxCount - 1, maxCount})
		w = append(w, pick(next, []api.Object{none(free, count), none(free, count), none(free, count), {Kind: aNode, Count: count}, page(count), page(count), none(retired, count), {Kind: aNode, Count: count, Slots: [16]api.Key{2: number(1), 15: number(1)}}}))
	}
	return w
}

// someKey mostly counts.
func (w world) someKey(next func(n int) int) api.Key {
	oid := next(len(w))
	o := w[oid]
	switch n := next(20); {
	case n < 4:
		return bank(0, 1)
	case n < 6:
		return proc(1, 1)
	case n < 8:
		return nodeKey(1, 1)
	case n < 10:
		return pick(next, ofNothing())
	case n == 10 && next(4) == 0:
		return pick(next, wrongKeys())
	case n == 11:
		return pick(next, naming(oid, int64(next(4)), int64(next(3))))
	case n == 12:
		return w.asItCounts(pick(next, o.Slots[:]))
	}
	if o.Kind == aPage {
		return with(pageKey(oid, o.Count), api.Rights(max(0, next(4)-2)))
	}
	return pick(next, append(naming(oid, o.Count, o.Calls)[2:], nodeKey(oid, o.Count), nodeKey(oid, o.Count), proc(oid, o.Count), bank(oid, o.Count)))
}

func (w world) someOrder(next func(n int) int) order {
	x := by(w.someKey(next), int64(next(9)), w.someKey(next), w.someKey(next), number(int64(next(20)-2)))
	switch next(8) {
	case 0:
		x.m.Keys[2] = w.someKey(next)
	case 1:
		x.m.Keys[2] = number(pick(next, ns()))
	case 2:
		x.m.Keys[2] = number(int64(next(900)))
	}
	x.now = int64(next(50) - 1)
	return x.with(rising(next(34), byte(next(256))))
}

func TestManyOrders(t *testing.T) {
	type seen struct {
		kind       api.KeyKind
		code, came int64
	}
	came, errors := make(map[seen]int), make(map[api.Errno]int)
	for i := range 150 {
		next := chance(uint32(i))
		p := pairOf(t, someWorld(next, []int{4, 6, 9, 13, 20, 64}[i%6]))
		for range 400 {
			x := p.want.someOrder(next)
			d := p.does(x)
			came[seen{x.key.Kind, x.m.Code, d.m.Code}]++
			errors[d.e]++
		}
	}
	for kind, l := range table() {
		for _, c := range slices.Concat([]int64{0}, l.plain, l.wantN) {
			if came[seen{kind, c, 0}] < 15 {
				t.Errorf("the order %d of the kind %d went only %d times", c, kind, came[seen{kind, c, 0}])
			}
		}
	}
	for _, e := range []api.Errno{ok, errArg, errParty} {
		if errors[e] < 15 {
			t.Errorf("%v came only %d times", e, errors[e])
		}
	}
}
