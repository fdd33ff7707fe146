package eam

import (
	"math/rand"
	"net/netip"
	"slices"
	"testing"

	"interpreter/api"
)

// plain is a table as the chapter tells it: its pairs, in their row; none is a nil table.
type plain struct {
	l    []api.Pair
	none bool
}

// plainMartian4 is whether an IPv4 address is nobody's, by the ranges' ends.
func plainMartian4(a api.V4) bool {
	return a[0] == 0 || a[0] == 127 || a[0] == 169 && a[1] == 254 || a[0] >= 224
}

// plainMartian6 is whether an IPv6 address is nobody's, as the library says it.
func plainMartian6(x api.V6) bool {
	a := netip.AddrFrom16(x)
	return a.IsUnspecified() || a.IsLoopback() || a.Is4In6() || a.IsLinkLocalUnicast() || a.IsMulticast()
}

// six is the other address of a pair with that IPv4 address.
func (m *plain) six(a api.V4) (api.V6, bool) {
	for _, p := range m.l {
		if p.Four == a {
			return p.Six, true
		}
	}
	return api.V6{}, false
}

// four is the other address of a pair with that IPv6 address.
func (m *plain) four(x api.V6) (api.V4, bool) {
	for _, p := range m.l {
		if p.Six == x {
			return p.Four, true
		}
	}
	return api.V4{}, false
}

// add is what Add has to do and to answer.
func (m *plain) add(p api.Pair) api.Errno {
	if m.none {
		return api.ErrFull
	}
	if plainMartian4(p.Four) || plainMartian6(p.Six) {
		return api.ErrRange
	}
	_, has4 := m.six(p.Four)
	_, has6 := m.four(p.Six)
	if has4 || has6 {
		return api.ErrThere
	}
	if len(m.l) == 16 {
		return api.ErrFull
	}
	m.l = append(m.l, p)
	return api.OK
}

// drop is what Drop has to do and to answer.
func (m *plain) drop(a api.V4) api.Errno {
	for i, p := range m.l {
		if p.Four == a {
			m.l = append(append([]api.Pair{}, m.l[:i]...), m.l[i+1:]...)
			return api.OK
		}
	}
	return api.ErrNone
}

// copied is another table with the same pairs.
func (m *plain) copied() *plain {
	return &plain{l: slices.Clone(m.l), none: m.none}
}

// A pupil is a table and the plain one against which all that it answers is held.
type pupil struct {
	*testing.T
	x *Table
	m plain
}

// one is the n-th of 256 pairs, which share nothing.
func one(n int) api.Pair {
	return api.Pair{Four: api.V4{192, 0, 2, byte(n)}, Six: api.V6{0x20, 1, 0x0d, 0xb8, 15: byte(n)}}
}

// some are the pairs from one to another, the last one left out.
func some(from, to int) []api.Pair {
	var l []api.Pair
	for n := from; n < to; n++ {
		l = append(l, one(n))
	}
	return l
}

// pair is two addresses, as they are written.
func pair(four, six string) api.Pair {
	return api.Pair{Four: netip.MustParseAddr(four).As4(), Six: netip.MustParseAddr(six).As16()}
}

// made is a table of a list of which all pairs may be added.
func made(t *testing.T, l []api.Pair) *pupil {
	t.Helper()
	x, e := New(slices.Clone(l))
	if e != api.OK || x == nil {
		t.Fatalf("New of %v: %v, %v", l, x, e)
	}
	p := &pupil{T: t, x: x, m: plain{l: slices.Clone(l)}}
	p.same()
	return p
}

// full is a table of the pairs 0 to 15.
func full(t *testing.T) *pupil {
	t.Helper()
	return made(t, some(0, 16))
}

// same asks the table for all that it has, and for what it has not.
func (p *pupil) same() {
	p.Helper()
	if n := p.x.Len(); n != len(p.m.l) {
		p.Errorf("Len is %d, not %d", n, len(p.m.l))
	}
	if l := p.x.All(); !slices.Equal(l, p.m.l) {
		p.Errorf("All is %v, not %v", l, p.m.l)
	}
	for _, q := range append(slices.Clone(p.m.l), some(0, 20)...) {
		p.finds(q)
	}
	p.finds(api.Pair{})
}

// finds asks for the other ones of two addresses, and for the first ones of those again.
func (p *pupil) finds(q api.Pair) {
	p.Helper()
	wantSix, has4 := p.m.six(q.Four)
	x, ok := p.x.Six(q.Four)
	if x != wantSix || ok != has4 {
		p.Errorf("Six(%v) is %x, %v, not %x, %v", q.Four, x, ok, wantSix, has4)
	}
	if a, back := p.x.Four(x); ok && (a != q.Four || !back) {
		p.Errorf("Four(%x) is %v, %v, not %v", x, a, back, q.Four)
	}
	wantFour, has6 := p.m.four(q.Six)
	a, ok := p.x.Four(q.Six)
	if a != wantFour || ok != has6 {
		p.Errorf("Four(%x) is %v, %v, not %v, %v", q.Six, a, ok, wantFour, has6)
	}
	if x, back := p.x.Six(a); ok && (x != q.Six || !back) {
		p.Errorf("Six(%v) is %x, %v, not %x", a, x, back, q.Six)
	}
}

// adds adds a pair, and asks for everything behind.
func (p *pupil) adds(q api.Pair, want api.Errno) {
	p.Helper()
	if e := p.m.add(q); e != want {
		p.Errorf("Add(%v): the chapter says %d, not %d", q, e, want)
	}
	if e := p.x.Add(q); e != want {
		p.Errorf("Add(%v): %d, not %d", q, e, want)
	}
	p.finds(q)
	p.same()
}

// drops drops a pair, and asks for everything behind.
func (p *pupil) drops(a api.V4, want api.Errno) {
	p.Helper()
	was, _ := p.m.six(a)
	if e := p.m.drop(a); e != want {
		p.Errorf("Drop(%v): the chapter says %d, not %d", a, e, want)
	}
	if e := p.x.Drop(a); e != want {
		p.Errorf("Drop(%v): %d, not %d", a, e, want)
	}
	p.finds(api.Pair{Four: a, Six: was})
	p.same()
}

// refuses asks that there is no table of a list, and why.
func refuses(t *testing.T, l []api.Pair, want api.Errno) {
	t.Helper()
	var m plain
	e := api.OK
	for i := 0; i < len(l) && e == api.OK; i++ {
		e = m.add(l[i])
	}
	if e != want {
		t.Errorf("New of %v: the chapter says %d, not %d", l, e, want)
	}
	if x, e := New(l); x != nil || e != want {
		t.Errorf("New of %v: %v, %d, not %d", l, x, e, want)
	}
}

// martians4 are the first and the last martian IPv4 address of each range.
func martians4() []api.V4 {
	return []api.V4{{}, {0, 255, 255, 255}, {127}, {127, 0, 0, 1}, {127, 255, 255, 255}, {169, 254}, {169, 254, 255, 255}, {224}, {224, 0, 0, 1}, {239, 255, 255, 255}, {240}, {255, 255, 255, 255}}
}

// martians6 are the first and the last martian IPv6 address of each range.
func martians6() []api.V6 {
	var l []api.V6
	for _, s := range []string{"::", "::1", "::ffff:0:0", "::ffff:c000:201", "::ffff:ffff:ffff", "fe80::", "fe80::1", "febf:ffff:ffff:ffff:ffff:ffff:ffff:ffff", "ff00::", "ff02::1", "ffff:ffff:ffff:ffff:ffff:ffff:ffff:ffff"} {
		l = append(l, netip.MustParseAddr(s).As16())
	}
	return l
}

// beside are pairs whose addresses stand just beside the martians, and private ones, which may be in a table.
func beside() []api.Pair {
	return []api.Pair{
		pair("1.0.0.0", "::2"), pair("126.255.255.255", "::fffe:ffff:ffff"), pair("128.0.0.0", "::1:0:0:0"), pair("169.253.255.255", "fe7f:ffff:ffff:ffff:ffff:ffff:ffff:ffff"),
		pair("169.255.0.0", "fec0::"), pair("223.255.255.255", "feff:ffff:ffff:ffff:ffff:ffff:ffff:ffff"), pair("10.0.0.1", "fc00::1"), pair("192.168.0.1", "64:ff9b::a00:1"), pair("100.64.0.1", "::c000:201"), pair("172.16.0.1", "2001:db8::"),
	}
}

// P11.1, P11.2: the chapter's examples.
func TestExamples(t *testing.T) {
	p := made(t, []api.Pair{pair("192.0.2.1", "2001:db8::1")})
	if a, ok := p.x.Four(netip.MustParseAddr("2001:db8::1").As16()); a != (api.V4{192, 0, 2, 1}) || !ok {
		t.Errorf("Four: %v, %v", a, ok)
	}
	if x, ok := p.x.Six(api.V4{192, 0, 2, 1}); x != netip.MustParseAddr("2001:db8::1").As16() || !ok {
		t.Errorf("Six: %x, %v", x, ok)
	}
	if x, ok := p.x.Six(api.V4{192, 0, 2, 2}); x != (api.V6{}) || ok {
		t.Errorf("Six of none: %x, %v", x, ok)
	}
	p.adds(pair("192.0.2.1", "2001:db8::2"), api.ErrThere)
	p.adds(pair("127.0.0.1", "2001:db8::3"), api.ErrRange)
	p.drops(api.V4{192, 0, 2, 1}, api.OK)
	if n := p.x.Len(); n != 0 {
		t.Errorf("Len: %d", n)
	}
}

// P11.1: how many a table has at most.
func TestMost(t *testing.T) {
	if Most != 16 {
		t.Errorf("Most is %d", Most)
	}
}

// P11.1, P11.2: tables of no pair to 16, and none of 17 or more.
func TestNew(t *testing.T) {
	made(t, nil)
	made(t, []api.Pair{})
	for n := range 17 {
		made(t, some(0, n))
		l := some(0, n)
		slices.Reverse(l)
		made(t, l)
	}
	made(t, beside())
	refuses(t, some(0, 17), api.ErrFull)
	refuses(t, some(0, 18), api.ErrFull)
	refuses(t, some(0, 256), api.ErrFull)
}

// P11.1: lists with the same pair twice, or with an address twice, wherever the two stand.
func TestNewThere(t *testing.T) {
	refuses(t, []api.Pair{one(1), one(1)}, api.ErrThere)
	for n := 1; n <= 16; n++ {
		for i := range n {
			for _, p := range []api.Pair{one(i), {Four: one(i).Four, Six: one(99).Six}, {Four: one(99).Four, Six: one(i).Six}} {
				refuses(t, append(some(0, n), p), api.ErrThere)
				refuses(t, append(some(0, n), p, one(98)), api.ErrThere)
			}
		}
	}
}

// P11.1: lists with a martian address of either family, at whatever place.
func TestNewMartian(t *testing.T) {
	for _, p := range bad() {
		refuses(t, []api.Pair{p}, api.ErrRange)
		for n := range 17 {
			l := some(0, n)
			for i := range l {
				l := slices.Clone(l)
				l[i].Four, l[i].Six = p.Four, p.Six
				refuses(t, l, api.ErrRange)
			}
			refuses(t, append(l, p), api.ErrRange)
		}
	}
}

// bad are pairs with one martian address, or two.
func bad() []api.Pair {
	l := []api.Pair{{}, {Four: martians4()[3], Six: martians6()[1]}}
	for _, a := range martians4() {
		l = append(l, api.Pair{Four: a, Six: one(77).Six})
	}
	for _, x := range martians6() {
		l = append(l, api.Pair{Four: one(77).Four, Six: x})
	}
	return l
}

// P11.1: of two errors, one behind the other in a list, the first one is told.
func TestNewFirstError(t *testing.T) {
	martian := pair("127.0.0.1", "2001:db8::77")
	for _, l := range [][]api.Pair{
		{one(1), one(1), martian},
		{one(1), {Four: one(1).Four, Six: one(2).Six}, martian, one(3)},
		append(some(0, 16), one(0), martian),
		append(some(0, 16), one(0), one(16)),
	} {
		refuses(t, l, api.ErrThere)
	}
	for _, l := range [][]api.Pair{
		{martian, one(1), one(1)},
		{one(1), martian, one(1)},
		{martian, martian},
		append([]api.Pair{martian}, some(0, 17)...),
		append(some(0, 16), martian, one(16)),
		append(some(0, 16), martian, one(0)),
	} {
		refuses(t, l, api.ErrRange)
	}
	refuses(t, append(some(0, 17), martian), api.ErrFull)
	refuses(t, append(some(0, 17), one(0)), api.ErrFull)
}

// P11.1: pairs of which one address or both are there, of one pair or of two.
func TestAddThere(t *testing.T) {
	for _, n := range []int{1, 2, 3, 15, 16} {
		p := made(t, some(0, n))
		for i := range n {
			p.adds(one(i), api.ErrThere)
			p.adds(api.Pair{Four: one(i).Four, Six: one(99).Six}, api.ErrThere)
			p.adds(api.Pair{Four: one(99).Four, Six: one(i).Six}, api.ErrThere)
			p.adds(api.Pair{Four: one(i).Four, Six: one((i + 1) % n).Six}, api.ErrThere)
		}
	}
}

// P11.1: martian addresses are refused ahead of all else: of what is there at once, and in a full table too.
func TestAddMartian(t *testing.T) {
	for _, n := range []int{0, 1, 16} {
		p := made(t, some(0, n))
		for _, q := range bad() {
			p.adds(q, api.ErrRange)
		}
		for _, a := range martians4() {
			p.adds(api.Pair{Four: a, Six: one(0).Six}, api.ErrRange)
		}
		for _, x := range martians6() {
			p.adds(api.Pair{Four: one(0).Four, Six: x}, api.ErrRange)
		}
	}
}

// P11.1: what stands just beside the martians may be added.
func TestAddBeside(t *testing.T) {
	p := made(t, nil)
	for _, q := range beside() {
		p.adds(q, api.OK)
	}
}

// P11.1: a full table takes no other pair, says of one that is there that it is, and has room for one behind each Drop.
func TestAddFull(t *testing.T) {
	p := full(t)
	p.adds(one(16), api.ErrFull)
	p.adds(one(3), api.ErrThere)
	for i := range 16 {
		p.drops(one(i).Four, api.OK)
		p.adds(one(20+i), api.OK)
		p.adds(one(i), api.ErrFull)
		p.adds(one(20+i), api.ErrThere)
	}
	p.drops(one(99).Four, api.ErrNone)
	p.adds(one(99), api.ErrFull)
}

// P11.1, P11.2: pairs that are dropped first, in the middle and last, and added again, behind all others.
func TestDrop(t *testing.T) {
	for _, n := range []int{1, 2, 3, 4, 16} {
		for i := range n {
			p := made(t, some(0, n))
			p.drops(one(i).Four, api.OK)
			p.drops(one(i).Four, api.ErrNone)
			p.adds(one(i), api.OK)
			if l := p.x.All(); l[len(l)-1] != one(i) {
				t.Errorf("%d of %d: %v", i, n, l)
			}
			p.drops(one(i).Four, api.OK)
			p.drops(one(i).Four, api.ErrNone)
		}
	}
}

// P11.1: what is not there is not dropped, and no martian address ever is.
func TestDropNone(t *testing.T) {
	for _, n := range []int{0, 1, 16} {
		p := made(t, some(0, n))
		p.drops(one(n).Four, api.ErrNone)
		p.drops(api.V4{}, api.ErrNone)
		for _, a := range martians4() {
			p.drops(a, api.ErrNone)
		}
		p.adds(api.Pair{Four: martians4()[0], Six: one(99).Six}, api.ErrRange)
		p.drops(martians4()[0], api.ErrNone)
	}
}

// P11.1, P11.2: all pairs dropped, from either end, and from the middle; the table is empty then, and fills again.
func TestDropAll(t *testing.T) {
	for _, step := range []int{1, 15, 5, 7} {
		p := full(t)
		for i := range 16 {
			p.drops(one((i*step+step)%16).Four, api.OK)
		}
		if p.x.Len() != 0 || len(p.x.All()) != 0 {
			t.Errorf("step %d: %d, %v", step, p.x.Len(), p.x.All())
		}
		for i := range 16 {
			p.adds(one(i), api.OK)
		}
		p.adds(one(16), api.ErrFull)
	}
}

// P11.1, P11.2: an address that was dropped is free for another one, of either family.
func TestDropFrees(t *testing.T) {
	p := made(t, some(0, 3))
	p.drops(one(1).Four, api.OK)
	p.adds(api.Pair{Four: one(1).Four, Six: one(9).Six}, api.OK)
	p.adds(api.Pair{Four: one(8).Four, Six: one(1).Six}, api.OK)
	p.adds(one(1), api.ErrThere)
	p.drops(one(1).Four, api.OK)
	p.adds(one(1), api.ErrThere)
	p.drops(one(8).Four, api.OK)
	p.adds(one(1), api.OK)
	p.adds(api.Pair{Four: one(8).Four, Six: one(9).Six}, api.OK)
}

// P11.2: what differs in one bit from an address that is there is not found, and may be added.
func TestOneBitApart(t *testing.T) {
	q := pair("192.0.2.33", "2001:db8::21")
	p := made(t, []api.Pair{q})
	for i := range 32 {
		r := q
		r.Four[i/8] ^= 0x80 >> (i % 8)
		p.drops(r.Four, api.ErrNone)
		if x, ok := p.x.Six(r.Four); x != (api.V6{}) || ok {
			t.Errorf("Six(%v): %x, %v", r.Four, x, ok)
		}
	}
	for i := range 128 {
		r := one(1)
		r.Six = q.Six
		r.Six[i/8] ^= 0x80 >> (i % 8)
		if a, ok := p.x.Four(r.Six); a != (api.V4{}) || ok {
			t.Errorf("Four(%x): %v, %v", r.Six, a, ok)
		}
		p.adds(r, api.OK)
		p.drops(r.Four, api.OK)
	}
}

// P11.3: addresses of the two families that have the same bytes have nothing to do with one another.
func TestFamilies(t *testing.T) {
	p := made(t, []api.Pair{pair("1.2.3.4", "102:304::"), pair("5.6.7.8", "::506:708")})
	p.finds(pair("5.6.7.8", "102:304::"))
	p.adds(pair("1.2.3.5", "506:708::"), api.OK)
}

// P11.1, P11.2: a nil table has nothing, takes nothing, and drops nothing, whatever it is handed.
func TestNil(t *testing.T) {
	p := &pupil{T: t, m: plain{none: true}}
	p.same()
	for _, q := range append(append(bad(), beside()...), one(1), one(1)) {
		p.adds(q, api.ErrFull)
		p.drops(q.Four, api.ErrNone)
	}
}

// P11.1, P11.2: a table that New did not make is like an empty one, by each call.
func TestNotMade(t *testing.T) {
	(&pupil{T: t, x: &Table{}}).same()
	(&pupil{T: t, x: new(Table)}).drops(one(1).Four, api.ErrNone)
	for _, q := range bad() {
		(&pupil{T: t, x: &Table{}}).adds(q, api.ErrRange)
	}
	p := &pupil{T: t, x: &Table{}}
	for i := range 16 {
		p.adds(one(i), api.OK)
		p.adds(one(i), api.ErrThere)
	}
	p.adds(one(16), api.ErrFull)
	for i := range 16 {
		p.drops(one(i).Four, api.OK)
	}
}

// spoil writes over a list, and over the room behind it.
func spoil(l []api.Pair) {
	l = l[:cap(l)]
	for i := range l {
		l[i] = one(200 + i)
	}
}

// P11.2: what All answered is new each time, and the caller's: whatever becomes of it, the table is as it was.
func TestAllIsTheCallers(t *testing.T) {
	for n := range 17 {
		p := made(t, some(0, n))
		first, second := p.x.All(), p.x.All()
		spoil(first)
		if !slices.Equal(second, some(0, n)) {
			t.Errorf("%d: two answers share memory: %v", n, second)
		}
		p.same()
		p.drops(one(0).Four, map[bool]api.Errno{true: api.OK, false: api.ErrNone}[n > 0])
		spoil(second)
		_ = append(p.x.All(), one(99))
		p.adds(one(50), api.OK)
		third := p.x.All()
		p.adds(one(51), map[bool]api.Errno{true: api.OK, false: api.ErrFull}[n < 16])
		if want := append(some(1, n), one(50)); !slices.Equal(third, want) {
			t.Errorf("%d: %v, not %v", n, third, want)
		}
	}
}

// P11.1: what New was given is not changed, its spare room neither, and not kept.
func TestListIsTheCallers(t *testing.T) {
	for n := range 17 {
		whole := some(0, 40)
		x, e := New(whole[:n])
		if e != api.OK {
			t.Fatal(n, e)
		}
		p := &pupil{T: t, x: x, m: plain{l: some(0, n)}}
		p.same()
		p.adds(one(100), map[bool]api.Errno{true: api.OK, false: api.ErrFull}[n < 16])
		p.drops(one(0).Four, map[bool]api.Errno{true: api.OK, false: api.ErrNone}[n > 0])
		p.adds(one(101), map[bool]api.Errno{true: api.OK, false: api.ErrFull}[len(p.m.l) < 16])
		if !slices.Equal(whole, some(0, 40)) {
			t.Errorf("%d: what New was given is %v", n, whole)
		}
		spoil(whole)
		p.same()
	}
	whole := some(0, 40)
	refuses(t, whole[:17], api.ErrFull)
	refuses(t, append(whole[:5:5], one(0)), api.ErrThere)
	if !slices.Equal(whole, some(0, 40)) {
		t.Errorf("what New refused is %v", whole)
	}
}

// P11.1: tables know nothing of one another, made of one list, or one copied from the other.
func TestTablesApart(t *testing.T) {
	l := some(0, 8)
	p, q := made(t, l), made(t, l)
	p.adds(one(20), api.OK)
	q.same()
	q.drops(one(3).Four, api.OK)
	p.same()
}

// P11.1: a table that was copied is one by itself, whichever of the two changes first, and how.
func TestCopied(t *testing.T) {
	for _, change := range []func(p *pupil){
		func(p *pupil) { p.adds(one(20), api.OK) },
		func(p *pupil) { p.drops(one(0).Four, api.OK) },
		func(p *pupil) { p.drops(one(3).Four, api.OK) },
		func(p *pupil) { p.drops(one(5).Four, api.OK) },
	} {
		p := made(t, some(0, 6))
		twin := *p.x
		q := &pupil{T: t, x: &twin, m: *p.m.copied()}
		change(q)
		p.same()
		p.adds(one(21), api.OK)
		q.same()
		change(p)
		q.same()
	}
}

// somePair is a pair of few addresses, now and then with a martian one.
func somePair(r *rand.Rand) api.Pair {
	p := api.Pair{Four: one(r.Intn(24)).Four, Six: one(r.Intn(24)).Six}
	switch r.Intn(20) {
	case 0:
		p.Four = martians4()[r.Intn(len(martians4()))]
	case 1:
		p.Six = martians6()[r.Intn(len(martians6()))]
	}
	return p
}

// P11.1 to P11.3: whatever is added and dropped, a table answers what the plain one does.
func TestOfWhatever(t *testing.T) {
	r := rand.New(rand.NewSource(1100))
	seen := map[api.Errno]int{}
	for range 300 {
		p := made(t, nil)
		dropsOf := 2 + r.Intn(6)
		for range 200 {
			q := somePair(r)
			if r.Intn(dropsOf) == 0 {
				p.drops(q.Four, p.m.copied().drop(q.Four))
				continue
			}
			want := p.m.copied().add(q)
			seen[want]++
			p.adds(q, want)
		}
		if t.Failed() {
			return
		}
		made(t, p.x.All())
	}
	for _, e := range []api.Errno{api.OK, api.ErrRange, api.ErrThere, api.ErrFull} {
		if seen[e] < 100 {
			t.Errorf("%d came %d times", e, seen[e])
		}
	}
}

// P11.1 to P11.3: lists of whatever pairs make a table, or are refused, as the plain one says.
func TestNewOfWhatever(t *testing.T) {
	r := rand.New(rand.NewSource(1101))
	for range 5000 {
		var l []api.Pair
		m, e := plain{}, api.OK
		for range r.Intn(20) {
			q := one(r.Intn(200))
			if r.Intn(15) == 0 {
				q = somePair(r)
			}
			l = append(l, q)
			if e == api.OK {
				e = m.add(q)
			}
		}
		if e != api.OK {
			refuses(t, l, e)
			continue
		}
		made(t, l)
	}
}

// P11.1 to P11.3: rows of calls that nobody thought of; a byte says whether a pair is added or dropped, two others which.
func FuzzTable(f *testing.F) {
	f.Add("")
	f.Add("\x00\x01\x01\x00\x01\x02\x01\x01\x00")
	f.Add("\x00\xff\x00\x00\x00\xff\x01\xff\x00")
	f.Fuzz(func(t *testing.T, s string) {
		p := made(t, nil)
		for ; len(s) >= 3; s = s[3:] {
			q := api.Pair{Four: of4(s[1]), Six: of6(s[2])}
			if s[0]&1 == 1 {
				p.drops(q.Four, p.m.copied().drop(q.Four))
				continue
			}
			p.adds(q, p.m.copied().add(q))
		}
		made(t, p.x.All())
	})
}

// of4 is an IPv4 address for a byte, some of them martian.
func of4(b byte) api.V4 {
	if n := 255 - int(b); n < len(martians4()) {
		return martians4()[n]
	}
	return one(int(b % 32)).Four
}

// of6 is an IPv6 address for a byte, some of them martian.
func of6(b byte) api.V6 {
	if n := 255 - int(b); n < len(martians6()) {
		return martians6()[n]
	}
	return one(int(b % 32)).Six
}
