package pages_test

import (
	"math"
	"slices"
	"strings"
	"testing"

	"chatelaine/api"
	"chatelaine/objects"
	"chatelaine/pages"
)

// What the document says of pages' bytes stands here once more, in plain words and numbers of its own.

const (
	maxCount = 4294967295
	ok       = api.Errno(0)
	errNil   = api.Errno(1)
	errRange = api.Errno(4)
	errKey   = api.Errno(190)
	errRight = api.Errno(191)
)

// world is what a store should have; one of no objects stands for no store.
type world []api.Object

// leads tells what refuses a key by which a page is asked.
func (w world) leads(k api.Key) api.Errno {
	if len(w) == 0 {
		return errNil
	}
	mayBe := k.Kind == 3 && k.Call == 0 && k.Value == 0 && (k.Rights == 0 || k.Rights == 1)
	if !mayBe || k.Oid < 0 || k.Oid >= len(w) || w[k.Oid].Kind != 2 || w[k.Oid].Count != k.Count {
		return errKey
	}
	return ok
}

// changes tells what refuses a key by which a page is to be changed.
func (w world) changes(k api.Key) api.Errno {
	e := w.leads(k)
	if e == ok && k.Rights == 1 {
		e = errRight
	}
	return e
}

// outside tells whether a place, or one of so many bytes from there on, is none of a page's, reckoned byte by byte.
func outside(at, n int) bool {
	if at < 0 || at > 64 || n < 0 || n > 64 {
		return true
	}
	for i := range n {
		if at+i > 63 {
			return true
		}
	}
	return false
}

func (w world) read(k api.Key, at, n int) (string, api.Errno) {
	e := w.leads(k)
	if e == ok && outside(at, n) {
		e = errRange
	}
	if e != ok {
		return "", e
	}
	var told []byte
	for i := range n {
		told = append(told, w[k.Oid].Bytes[at+i])
	}
	return string(told), ok
}

func (w world) write(k api.Key, at int, b string) api.Errno {
	e := w.changes(k)
	if e == ok && outside(at, len(b)) {
		e = errRange
	}
	if e == ok {
		for i := range len(b) {
			w[k.Oid].Bytes[at+i] = b[i]
		}
	}
	return e
}

func (w world) clear(k api.Key) api.Errno {
	e := w.changes(k)
	if e == ok {
		w[k.Oid].Bytes = [64]byte{}
	}
	return e
}

func (w world) copy(to, from api.Key) api.Errno {
	e := w.changes(to)
	if e == ok {
		e = w.leads(from)
	}
	if e == ok {
		w[to.Oid].Bytes = w[from.Oid].Bytes
	}
	return e
}

// Keys to try

func key(kind api.KeyKind, oid int, count int64) api.Key {
	return api.Key{Kind: kind, Oid: oid, Count: count}
}

func pageKey(oid int, count int64, r api.Rights) api.Key {
	return api.Key{Kind: 3, Oid: oid, Count: count, Rights: r}
}

// naming are keys of each kind that names an object, of that Oid and Count; resume keys with that Call.
func naming(oid int, count, call int64) []api.Key {
	l := []api.Key{
		pageKey(oid, count, 0), pageKey(oid, count, 1), key(4, oid, count), key(5, oid, count), key(6, oid, count),
		{Kind: 6, Oid: oid, Count: count, Value: -9}, {Kind: 7, Oid: oid, Count: count, Call: call},
	}
	for r := range api.Rights(8) {
		l = append(l, api.Key{Kind: 2, Oid: oid, Count: count, Rights: r})
	}
	return l
}

// ofNothing are keys of no object.
func ofNothing() []api.Key {
	return []api.Key{{}, {Kind: 1}, {Kind: 1, Value: -7}, {Kind: 1, Value: math.MaxInt64}, {Kind: 1, Value: math.MinInt64}, {Kind: 8}, {Kind: 9}, {Kind: 10}}
}

// wrongKeys are keys that may not be, in whatever store; many of them are those of the town's page 2 but for one part.
func wrongKeys() []api.Key {
	l := []api.Key{
		key(-1, 2, 4), key(11, 2, 4), key(256+3, 2, 4), key(1<<32+3, 2, 4), key(-3, 2, 4), key(math.MinInt, 2, 4), key(math.MaxInt, 2, 4), key(0, 2, 4),
		pageKey(-1, 4, 0), pageKey(-2, 4, 0), pageKey(64, 4, 0), pageKey(66, 4, 0), pageKey(256+2, 4, 0), pageKey(1<<32+2, 4, 0), pageKey(math.MaxInt, 4, 0), pageKey(math.MinInt, 4, 0),
		pageKey(2, -4, 0), pageKey(2, maxCount+1, 0), pageKey(2, maxCount+5, 0), pageKey(2, math.MaxInt64, 0), pageKey(2, math.MinInt64, 0),
		{Kind: 3, Oid: 2, Count: 4, Call: 1}, {Kind: 3, Oid: 2, Count: 4, Call: -1}, {Kind: 3, Oid: 2, Count: 4, Value: 1}, {Kind: 3, Oid: 2, Count: 4, Value: math.MinInt64},
		{Oid: 2}, {Count: 4}, {Rights: 1}, {Kind: 1, Oid: 2, Count: 4}, {Kind: 8, Oid: 2, Count: 4}, {Kind: 9, Rights: 1}, {Kind: 10, Call: 1},
		{Kind: 2, Oid: 2, Count: 4, Rights: 8}, {Kind: 4, Oid: 2, Count: 4, Rights: 1}, {Kind: 7, Oid: 2, Count: 4, Call: -1},
	}
	for _, r := range []api.Rights{2, 3, 4, 5, 6, 7, 8, 9, -1, -2, 16, 256, 257, 1 << 32, 1<<32 + 1, math.MaxInt, math.MinInt} {
		l = append(l, pageKey(2, 4, r))
	}
	return l
}

// Places and numbers to try

func places() []int { return []int{0, 1, 2, 31, 32, 62, 63, 64} }

// wrongPlaces are such that, taken modulo what an int or a byte holds, or with a number added, they could be right.
func wrongPlaces() []int {
	return []int{
		65, -1, 66, -2, 127, 128, -63, -64, -65, 255, 256, 257, 65536, 1 << 31, 1 << 32, 1<<32 + 1, -1 << 32,
		math.MaxInt, math.MaxInt - 1, math.MaxInt - 63, math.MaxInt - 64, math.MinInt, math.MinInt + 1, math.MinInt + 64,
	}
}

func numbers() []int { return []int{0, 1, 2, 63, 64} }

func wrongNumbers() []int { return wrongPlaces() }

// lengths are of what is to be written; the greater ones lie in no page.
func lengths() []int {
	return []int{0, 1, 2, 31, 62, 63, 64, 65, 66, 127, 128, 256, 257, 65536, 1 << 20}
}

// Bytes to try

// wave is n bytes that are not those of the town's pages, all 256 among many.
func wave(n int) string {
	var b strings.Builder
	for i := range n {
		b.WriteByte(byte(255 - i*7))
	}
	return b.String()
}

func rising(from byte) (b [64]byte) {
	for i := range b {
		b[i] = from + byte(i)
	}
	return b
}

// Stores to try

// town are objects of all kinds; 2, 6 and 7 are pages, 7 of noughts, 6 with the greatest Count.
func town() world {
	keys := [16]api.Key{pageKey(2, 4, 0), {Kind: 1, Value: 5}, pageKey(6, maxCount, 1), pageKey(7, 0, 0), 15: {Kind: 2, Oid: 1, Count: 3, Rights: 7}}
	return world{
		{Kind: 1, Count: 1, Calls: 2, Bytes: rising(9)},
		{Kind: 1, Count: 3, Slots: keys, Bytes: rising(100)},
		{Kind: 2, Count: 4, Bytes: rising(33)},
		{Kind: 0, Count: 5},
		{Kind: 3, Count: maxCount},
		{Kind: 1, Count: 0, Calls: maxCount, Bytes: rising(200)},
		{Kind: 2, Count: maxCount, Bytes: rising(150)},
		{Kind: 2, Count: 0},
	}
}

// one is a town's page 2, by its own key; six the page 6, seven the page 7.
func one() api.Key { return pageKey(2, 4, 0) }

func six() api.Key { return pageKey(6, maxCount, 0) }

func seven() api.Key { return pageKey(7, 0, 0) }

// readOnly is a page's key with ReadOnly.
func readOnly(k api.Key) api.Key {
	k.Rights = 1
	return k
}

// leadNowhere are keys by which no page of the town is come to.
func leadNowhere() []api.Key {
	l := slices.Concat(wrongKeys(), ofNothing())
	for oid, o := range town() {
		for _, k := range naming(oid, o.Count, o.Calls) {
			if k.Kind != 3 || o.Kind != 2 {
				l = append(l, k)
			}
		}
		for r := range api.Rights(2) {
			l = append(l, pageKey(oid, (o.Count+1)%maxCount, r), pageKey(oid, (o.Count+maxCount)%(maxCount+1), r))
		}
	}
	for _, oid := range []int{8, 9, 62, 63} {
		l = slices.Concat(l, naming(oid, 0, 0), naming(oid, 4, 1))
	}
	return l
}

// none are stores that are not there.
func none() map[string]*objects.Store {
	return map[string]*objects.Store{"nil": nil, "zero": {}}
}

// pair is a store, and beside it what it should have.
type pair struct {
	t    *testing.T
	s    *objects.Store
	want world
}

func pairOf(t *testing.T, w world) *pair {
	t.Helper()
	s, e := objects.Of(w...)
	if e != ok {
		t.Fatalf("no such store: %v", e)
	}
	return &pair{t, s, slices.Clone(w)}
}

// holds asks that the store has what it should, part by part and byte by byte.
func (p *pair) holds(what string) {
	p.t.Helper()
	if p.s.Size() != len(p.want) {
		p.t.Fatalf("%s: %d objects, want %d", what, p.s.Size(), len(p.want))
	}
	for oid, o := range p.s.All() {
		if o != p.want[oid] {
			p.t.Fatalf("%s: the object %d is %v, want %v", what, oid, o, p.want[oid])
		}
	}
}

// tells asks what was told, and what the store has behind it.
func (p *pair) tells(what, b, want string, e, wantE api.Errno) {
	p.t.Helper()
	if b != want || e != wantE {
		p.t.Fatalf("%s: %q, %v, want %q, %v", what, b, e, want, wantE)
	}
	p.holds(what)
}

func (p *pair) says(what string, e, want api.Errno) {
	p.t.Helper()
	p.tells(what, "", "", e, want)
}

func (p *pair) read(k api.Key, at, n int) {
	p.t.Helper()
	want, wantE := p.want.read(k, at, n)
	b, e := pages.Read(p.s, k, at, n)
	p.tells("Read", b, want, e, wantE)
}

func (p *pair) write(k api.Key, at int, b string) {
	p.t.Helper()
	want := p.want.write(k, at, b)
	p.says("Write", pages.Write(p.s, k, at, b), want)
}

func (p *pair) clear(k api.Key) {
	p.t.Helper()
	want := p.want.clear(k)
	p.says("Clear", pages.Clear(p.s, k), want)
}

func (p *pair) copy(to, from api.Key) {
	p.t.Helper()
	want := p.want.copy(to, from)
	p.says("Copy", pages.Copy(p.s, to, from), want)
}

// set puts an object into the store by the store's own call.
func (p *pair) set(oid int, o api.Object) {
	p.t.Helper()
	if e := p.s.Put(oid, o); e != ok {
		p.t.Fatalf("the store takes no such object: %v", e)
	}
	p.want[oid] = o
}

// all asks that each page of the store is told by its key, whole and byte by byte.
func (p *pair) all() {
	p.t.Helper()
	for oid, o := range p.want {
		if o.Kind != 2 {
			continue
		}
		b, e := pages.Read(p.s, pageKey(oid, o.Count, 0), 0, 64)
		p.tells("Read of a whole page", b, string(o.Bytes[:]), e, ok)
		for at := range 64 {
			b, e = pages.Read(p.s, pageKey(oid, o.Count, 1), at, 1)
			p.tells("Read of one byte", b, string(o.Bytes[at:at+1]), e, ok)
		}
	}
}

func TestTheKeysToTryAreRight(t *testing.T) {
	w := town()
	for _, k := range []api.Key{one(), six(), seven(), readOnly(one()), readOnly(six()), readOnly(seven())} {
		if e := w.leads(k); e != ok {
			t.Errorf("%v: %v", k, e)
		}
	}
	l := leadNowhere()
	if len(l) < 200 {
		t.Errorf("only %d keys that lead nowhere", len(l))
	}
	for _, k := range l {
		if e := w.leads(k); e != errKey {
			t.Errorf("%v: %v", k, e)
		}
	}
}

// P10.1: the examples

func TestExamples(t *testing.T) {
	p := pairOf(t, world{{Kind: 2, Count: 1}})
	k := pageKey(0, 1, 0)
	p.want[0].Bytes[62], p.want[0].Bytes[63] = 'a', 'b'
	p.says("Write(page, 62, ab)", pages.Write(p.s, k, 62, "ab"), ok)
	b, e := pages.Read(p.s, k, 61, 3)
	p.tells("Read(page, 61, 3)", b, "\x00ab", e, ok)
	p.says("Write(page, 63, ab)", pages.Write(p.s, k, 63, "ab"), errRange)
	p.says("Write by a read-only key", pages.Write(p.s, readOnly(k), 0, "a"), errRight)
	b, e = pages.Read(p.s, k, 64, 0)
	p.tells("Read(page, 64, 0)", b, "", e, ok)
}

// P10.1: Read

func TestReadOfEachSpan(t *testing.T) {
	p := pairOf(t, town())
	for r := range api.Rights(2) {
		for at := range 65 {
			for n := range 65 {
				bytes, want, wantE := rising(33), "", errRange
				if at+n <= 64 {
					want, wantE = string(bytes[at:at+n]), ok
				}
				b, e := pages.Read(p.s, pageKey(2, 4, r), at, n)
				p.tells("Read", b, want, e, wantE)
			}
		}
	}
}

func TestReadAtTheEdges(t *testing.T) {
	edges := []struct {
		at, n int
		want  string
		e     api.Errno
	}{
		{0, 0, "", ok}, {0, 1, "\x21", ok}, {1, 1, "\x22", ok}, {63, 1, "\x60", ok}, {63, 0, "", ok}, {64, 0, "", ok}, {1, 0, "", ok},
		{62, 2, "\x5f\x60", ok}, {0, 65, "", errRange}, {1, 64, "", errRange}, {63, 2, "", errRange}, {64, 1, "", errRange}, {65, 0, "", errRange},
		{-1, 0, "", errRange}, {-1, 1, "", errRange}, {-1, 2, "", errRange}, {0, -1, "", errRange}, {1, -1, "", errRange}, {64, -1, "", errRange}, {65, -1, "", errRange},
		{63, 64, "", errRange}, {64, 63, "", errRange}, {64, 64, "", errRange}, {65, 65, "", errRange}, {-1, 65, "", errRange}, {-1, -1, "", errRange},
		{-64, 64, "", errRange}, {-64, 128, "", errRange}, {128, -64, "", errRange}, {1, math.MaxInt, "", errRange}, {64, math.MaxInt, "", errRange},
		{math.MaxInt, 1, "", errRange}, {math.MaxInt, math.MaxInt, "", errRange}, {math.MinInt, math.MinInt, "", errRange}, {math.MinInt, math.MaxInt, "", errRange},
		{math.MaxInt, math.MinInt, "", errRange}, {math.MinInt, 0, "", errRange}, {0, math.MinInt, "", errRange}, {0, math.MaxInt, "", errRange}, {math.MaxInt, 0, "", errRange},
	}
	p := pairOf(t, town())
	for r := range api.Rights(2) {
		for _, x := range edges {
			b, e := pages.Read(p.s, pageKey(2, 4, r), x.at, x.n)
			p.tells("Read at an edge", b, x.want, e, x.e)
		}
	}
}

func TestReadOfNoSpan(t *testing.T) {
	p := pairOf(t, town())
	for r := range api.Rights(2) {
		k := pageKey(2, 4, r)
		for _, at := range slices.Concat(places(), wrongPlaces()) {
			for _, n := range wrongNumbers() {
				b, e := pages.Read(p.s, k, at, n)
				p.tells("Read of a wrong number", b, "", e, errRange)
				b, e = pages.Read(p.s, k, n, at)
				p.tells("Read at a wrong place", b, "", e, errRange)
			}
		}
	}
}

func TestReadOfEachPage(t *testing.T) {
	p := pairOf(t, town())
	p.all()
	for r := range api.Rights(2) {
		b, e := pages.Read(p.s, pageKey(7, 0, r), 0, 64)
		p.tells("Read of noughts", b, strings.Repeat("\x00", 64), e, ok)
		bytes := rising(150)
		b, e = pages.Read(p.s, pageKey(6, maxCount, r), 0, 64)
		p.tells("Read of the page of the greatest Count", b, string(bytes[:]), e, ok)
	}
}

// What is told stays, whatever becomes of the page.
func TestReadIsNewMemory(t *testing.T) {
	p := pairOf(t, town())
	whole, _ := pages.Read(p.s, one(), 0, 64)
	part, _ := pages.Read(p.s, one(), 3, 5)
	p.write(one(), 0, wave(64))
	p.copy(one(), six())
	p.clear(one())
	p.set(2, api.Object{})
	if want := rising(33); whole != string(want[:]) || part != string(want[3:8]) {
		t.Errorf("what Read answered goes with the page: %q, %q", whole, part)
	}
}

// P10.1, P10.3: Write

func TestWriteOfEachSpan(t *testing.T) {
	for at := range 66 {
		for n := range 66 {
			p, b := pairOf(t, town()), wave(n)
			want := errRange
			if at <= 64 && at+n <= 64 {
				want = ok
				for i := range n {
					p.want[2].Bytes[at+i] = b[i]
				}
			}
			p.says("Write", pages.Write(p.s, one(), at, b), want)
			if want == ok {
				got, e := pages.Read(p.s, one(), at, n)
				p.tells("Read of what was written", got, b, e, ok)
				p.read(one(), 0, at)
				p.read(one(), at+n, 64-at-n)
			}
		}
	}
}

func TestWriteAtTheEdges(t *testing.T) {
	edges := []struct {
		at int
		b  string
		e  api.Errno
	}{
		{0, "", ok}, {1, "", ok}, {63, "", ok}, {64, "", ok}, {65, "", errRange}, {-1, "", errRange}, {math.MaxInt, "", errRange}, {math.MinInt, "", errRange},
		{0, "a", ok}, {63, "a", ok}, {64, "a", errRange}, {65, "a", errRange}, {-1, "a", errRange}, {-1, "ab", errRange}, {63, "ab", errRange}, {62, "ab", ok},
		{math.MaxInt, "a", errRange}, {math.MaxInt - 1, "ab", errRange}, {math.MinInt, "a", errRange}, {math.MaxInt - 63, wave(64), errRange},
		{0, wave(63), ok}, {1, wave(63), ok}, {2, wave(63), errRange}, {0, wave(64), ok}, {1, wave(64), errRange}, {0, wave(65), errRange}, {-1, wave(65), errRange}, {-64, wave(128), errRange},
	}
	for _, x := range edges {
		p := pairOf(t, town())
		if x.e == ok {
			copy(p.want[2].Bytes[x.at:], x.b)
		}
		p.says("Write at an edge", pages.Write(p.s, one(), x.at, x.b), x.e)
		p.all()
	}
}

func TestWriteAtNoPlace(t *testing.T) {
	p := pairOf(t, town())
	for _, n := range lengths() {
		for _, at := range wrongPlaces() {
			p.says("Write at a wrong place", pages.Write(p.s, one(), at, wave(n)), errRange)
		}
		for _, at := range places() {
			if n > 64 {
				p.says("Write of too much", pages.Write(p.s, one(), at, wave(n)), errRange)
			}
		}
	}
	p.all()
}

// Bytes are bytes, whether they are texts or not.
func TestWriteOfAllBytes(t *testing.T) {
	p := pairOf(t, town())
	for n := range 256 {
		p.write(seven(), n%64, string([]byte{byte(n)}))
	}
	for _, b := range []string{"\xff\xfe\xc0\x80", "\x00\x00", "äöü€", "\xed\xa0\x80", "\r\n\t\x7f"} {
		for _, at := range []int{0, 5, 64 - len(b)} {
			p.write(seven(), at, b)
			p.read(seven(), at, len(b))
		}
	}
	p.all()
}

// What is written stays as it is where it is written over just in part.
func TestWriteOverWrite(t *testing.T) {
	p := pairOf(t, town())
	p.write(one(), 10, "aaaaaaaa")
	p.write(one(), 12, "bb")
	p.write(one(), 16, "cccc")
	p.write(one(), 8, "ddd")
	p.write(one(), 14, "")
	bytes := rising(33)
	b, e := pages.Read(p.s, one(), 7, 14)
	p.tells("Read of what was written over", b, string(bytes[7:8])+"dddabbaacccc"+string(bytes[20:21]), e, ok)
}

// P10.3: each byte of a page is another one, and stays what it was.
func TestEachByteAlone(t *testing.T) {
	for at := range 64 {
		p := pairOf(t, town())
		for _, b := range []string{"\x00", "\x01", "\x7f", "\x80", "\xff"} {
			p.write(one(), at, b)
			got, e := pages.Read(p.s, one(), at, 1)
			p.tells("Read of a byte that was written", got, b, e, ok)
		}
		p.all()
	}
}

// P10.1: Clear

func TestClear(t *testing.T) {
	for _, k := range []api.Key{one(), six(), seven()} {
		p := pairOf(t, town())
		for range 2 {
			p.want[k.Oid].Bytes = [64]byte{}
			p.says("Clear", pages.Clear(p.s, k), ok)
			b, e := pages.Read(p.s, k, 0, 64)
			p.tells("Read of what was cleared", b, strings.Repeat("\x00", 64), e, ok)
		}
		p.write(k, 63, "z")
		p.all()
	}
}

// P10.1: Copy

func TestCopy(t *testing.T) {
	bytes := map[int][64]byte{2: rising(33), 6: rising(150), 7: {}}
	for _, to := range []api.Key{one(), six(), seven()} {
		for _, from := range []api.Key{one(), six(), seven()} {
			for _, by := range []api.Key{from, readOnly(from)} {
				p := pairOf(t, town())
				p.want[to.Oid].Bytes = bytes[from.Oid]
				p.says("Copy", pages.Copy(p.s, to, by), ok)
				p.all()
			}
		}
	}
}

func TestCopyOntoItself(t *testing.T) {
	for _, k := range []api.Key{one(), six(), seven()} {
		p := pairOf(t, town())
		p.says("Copy onto itself", pages.Copy(p.s, k, k), ok)
		p.says("Copy onto itself, by a read-only key", pages.Copy(p.s, k, readOnly(k)), ok)
		p.says("Copy into a read-only page, of itself", pages.Copy(p.s, readOnly(k), k), errRight)
		p.all()
	}
}

// What was copied goes on apart.
func TestCopyGoesOnApart(t *testing.T) {
	p := pairOf(t, town())
	p.copy(seven(), one())
	p.write(seven(), 0, "seven")
	p.write(one(), 32, "one")
	p.all()
	p.clear(one())
	bytes := rising(33)
	b, e := pages.Read(p.s, seven(), 0, 64)
	p.tells("Read of what was copied", b, "seven"+string(bytes[5:]), e, ok)
	p.copy(one(), six())
	p.clear(seven())
	p.all()
}

// The order of the errors

// told asks each of the functions by one key, Copy with a second one, and tells the errors; beside them nothing is told.
func told(t *testing.T, s *objects.Store, k, other api.Key, at, n int) map[string]api.Errno {
	t.Helper()
	b, read := pages.Read(s, k, at, n)
	if read != ok && b != "" {
		t.Errorf("Read tells %q beside %v", b, read)
	}
	text := ""
	if n > 0 && n <= 1000 {
		text = wave(n)
	}
	return map[string]api.Errno{"Read": read, "Write": pages.Write(s, k, at, text), "Clear": pages.Clear(s, k), "Copy": pages.Copy(s, k, other)}
}

func TestNoStore(t *testing.T) {
	tried := slices.Concat(wrongKeys(), ofNothing(), naming(0, 0, 0), naming(2, 4, 0), naming(63, maxCount, 1))
	for name, s := range none() {
		for _, k := range tried {
			for _, at := range slices.Concat(places(), wrongPlaces()) {
				for _, n := range []int{0, 1, 64, 65, -1, math.MaxInt, math.MinInt} {
					for what, e := range told(t, s, k, one(), at, n) {
						if e != errNil {
							t.Fatalf("%s: %s(%v, %d, %d): %v, want ErrNil", name, what, k, at, n, e)
						}
					}
				}
			}
			for _, other := range tried {
				if e := pages.Copy(s, k, other); e != errNil {
					t.Fatalf("%s: Copy(%v, %v): %v, want ErrNil", name, k, other, e)
				}
			}
		}
		if s.Size() != 0 {
			t.Errorf("%s: it is a store now", name)
		}
	}
}

func TestNoKey(t *testing.T) {
	p := pairOf(t, town())
	for _, k := range leadNowhere() {
		for _, at := range []int{0, 63, 64, 65, -1, math.MaxInt, math.MinInt} {
			for _, n := range []int{0, 1, 64, 65, -1, math.MaxInt, math.MinInt} {
				for _, other := range []api.Key{one(), readOnly(six()), {}, {Kind: -1}} {
					for what, e := range told(t, p.s, k, other, at, n) {
						p.says(what, e, errKey)
					}
				}
			}
		}
	}
}

func TestRights(t *testing.T) {
	p := pairOf(t, town())
	for _, k := range []api.Key{one(), six(), seven()} {
		k := readOnly(k)
		for _, at := range slices.Concat(places(), wrongPlaces()) {
			for _, n := range lengths()[:12] {
				p.says("Write by a read-only key", pages.Write(p.s, k, at, wave(n)), errRight)
				p.read(k, at, n)
			}
			for _, n := range wrongNumbers() {
				b, e := pages.Read(p.s, k, at, n)
				p.tells("Read by a read-only key", b, "", e, errRange)
			}
		}
		p.says("Clear by a read-only key", pages.Clear(p.s, k), errRight)
		for _, from := range slices.Concat(leadNowhere(), []api.Key{one(), six(), seven(), readOnly(one()), readOnly(six()), readOnly(seven())}) {
			p.says("Copy into a read-only page", pages.Copy(p.s, k, from), errRight)
		}
		b, e := pages.Read(p.s, k, 0, 64)
		bytes := town()[k.Oid].Bytes
		p.tells("Read by a read-only key", b, string(bytes[:]), e, ok)
	}
}

func TestTheOrderOfCopysErrors(t *testing.T) {
	p := pairOf(t, town())
	nowhere := leadNowhere()
	for _, bad := range nowhere {
		p.says("Copy of what is no page", pages.Copy(p.s, one(), bad), errKey)
		p.says("Copy of what is no page into a read-only one", pages.Copy(p.s, readOnly(one()), bad), errRight)
		for _, from := range []api.Key{one(), readOnly(one()), six(), readOnly(six())} {
			p.says("Copy into what is no page", pages.Copy(p.s, bad, from), errKey)
		}
		for _, other := range nowhere[:40] {
			p.says("Copy of what is no page into such", pages.Copy(p.s, bad, other), errKey)
		}
	}
}

// A key of a page leads to it till its number is given anew, or it is a page no more; and again, if that is undone.
func TestKeysCountByTheStore(t *testing.T) {
	p := pairOf(t, town())
	was := p.want[2]
	for _, o := range []api.Object{{Kind: 2, Count: 5, Bytes: rising(1)}, {Kind: 2, Count: 3}, {Kind: 1, Count: 4}, {Kind: 0, Count: 4}, {Kind: 3, Count: 4}} {
		p.set(2, o)
		for what, e := range told(t, p.s, one(), six(), 0, 1) {
			p.says(what, e, errKey)
		}
		p.says("Copy of what leads nowhere now", pages.Copy(p.s, six(), one()), errKey)
		p.set(2, was)
		p.all()
		p.write(one(), 1, "a")
		was = p.want[2]
	}
}

// P10.2

// All keys, places and numbers, those that may be and those that may not: each answer as the document has it, and the store behind it.
func TestNothingElseIsChanged(t *testing.T) {
	asked := slices.Concat(naming(2, 4, 0), naming(6, maxCount, 0), naming(7, 0, 0), naming(1, 3, 0), naming(3, 5, 0), []api.Key{{}, {Kind: 1}, pageKey(2, 5, 0), pageKey(8, 0, 0), {Kind: -1}})
	for _, k := range asked {
		p := pairOf(t, town())
		for _, at := range []int{0, 1, 63, 64, 65, -1, math.MaxInt, math.MinInt} {
			for _, n := range lengths()[:11] {
				p.read(k, at, n)
				p.write(k, at, wave(n))
			}
			for _, n := range slices.Concat(numbers(), wrongNumbers()) {
				p.read(k, at, n)
			}
		}
		for _, other := range asked {
			q := pairOf(t, town())
			q.copy(k, other)
			q.copy(other, k)
			q.clear(other)
			q.read(k, 0, 64)
		}
		p.clear(k)
		p.read(k, 0, 64)
	}
}

// The greatest store, all of pages: each one's Count stays, and the others' bytes.
func TestTheGreatestStore(t *testing.T) {
	w := make(world, 64)
	for oid := range w {
		w[oid] = api.Object{Kind: 2, Count: maxCount - int64(oid), Bytes: rising(byte(oid * 3))}
	}
	p := pairOf(t, w)
	for oid, o := range w {
		k, other := pageKey(oid, o.Count, 0), pageKey(63-oid, w[63-oid].Count, 1)
		p.write(k, oid, "x")
		p.read(k, 0, 64)
		p.copy(k, other)
		p.write(k, 0, wave(oid))
		if oid%3 == 0 {
			p.clear(k)
		}
	}
	p.all()
}

func TestAStoreOfOnePage(t *testing.T) {
	p := pairOf(t, world{{Kind: 2}})
	own := pageKey(0, 0, 0)
	p.write(own, 0, wave(64))
	p.write(pageKey(1, 0, 0), 0, "a")
	p.write(pageKey(0, 1, 0), 0, "a")
	p.copy(own, own)
	p.copy(own, pageKey(1, 0, 0))
	p.all()
	p.clear(own)
	p.all()
}

// Each of two stores is asked by itself.
func TestStoresGoOnApart(t *testing.T) {
	a, b := pairOf(t, town()), pairOf(t, town())
	other := a.s.Copy()
	a.write(one(), 0, "a")
	a.clear(six())
	b.copy(seven(), one())
	a.holds("another store was changed")
	b.holds("another store was changed")
	c := &pair{t, other, town()}
	c.all()
}

// Many calls in no order

// row is numbers that are the same each time.
func row(from uint32) func(n int) int {
	return func(n int) int {
		from = from*1664525 + 1013904223
		return int(from>>8) % n
	}
}

func pick[T any](next func(n int) int, l []T) T { return l[next(len(l))] }

// someKey is of any kind, of an object that is there or just not, but mostly a page's that counts.
func (p *pair) someKey(next func(n int) int) api.Key {
	oid := next(len(p.want) + next(2))
	count, called := int64(next(3)), int64(next(3))
	if oid < len(p.want) && next(8) > 0 {
		count, called = p.want[oid].Count, p.want[oid].Calls
	}
	switch next(16) {
	case 0:
		return pick(next, wrongKeys())
	case 1:
		return pick(next, ofNothing())
	case 2:
		return pick(next, naming(oid, count, called))
	}
	return pageKey(oid, count, pick(next, []api.Rights{0, 0, 0, 1}))
}

// span tells a place and a number, mostly such as lie in a page.
func span(next func(n int) int) (int, int) {
	switch next(12) {
	case 0:
		return pick(next, wrongPlaces()), next(66)
	case 1:
		return next(66), next(66)
	case 2:
		return pick(next, places()), pick(next, numbers())
	}
	at := next(65)
	return at, next(65 - at)
}

func (p *pair) step(next func(n int) int) {
	k := p.someKey(next)
	at, n := span(next)
	switch next(12) {
	case 0:
		p.clear(k)
	case 1, 2:
		p.copy(k, p.someKey(next))
	case 3, 4, 5:
		if next(8) == 0 {
			n = pick(next, wrongNumbers())
		}
		p.read(k, at, n)
	case 6:
		p.give(next)
	default:
		p.write(k, at, wave(n + next(3))[min(n, next(3)):])
	}
}

// give gives a number anew, so that keys lead to its page no more, or do so again.
func (p *pair) give(next func(n int) int) {
	oid, kind := next(len(p.want)), api.ObjKind(2)
	if next(4) == 0 {
		kind = api.ObjKind(next(4))
	}
	o := api.Object{Kind: kind, Count: int64(next(3))}
	if kind == 2 {
		o.Bytes = rising(byte(next(256)))
	}
	p.set(oid, o)
}

func TestManyCalls(t *testing.T) {
	for _, n := range []int{1, 2, 3, 8, 64} {
		w := make(world, n)
		for oid := range w {
			w[oid] = api.Object{Kind: 2, Count: 1, Bytes: rising(byte(oid))}
		}
		p, next := pairOf(t, w), row(uint32(n))
		for range 6000 {
			p.step(next)
		}
		p.all()
	}
}
