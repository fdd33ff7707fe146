package fault

import (
	"math"
	"strings"
	"testing"

	"interpreter/api"
	"interpreter/head46"
	"interpreter/head64"
	"interpreter/ip4"
	"interpreter/ip6"
)

// kept are protocols that are the same over both families, and refused such as are none over the other one, or nobody's.
var (
	kept     = []int{3, 4, 6, 17, 41, 42, 45, 47, 50, 51, 57, 59, 61, 132, 254, 255}
	refused4 = []int{0, 2, 43, 44, 58, 60, 256, 257, 262, 273, 65536 + 6}
	refused6 = []int{0, 1, 2, 43, 44, 60, 256, 262, 273, 314, 65536 + 6}
)

// P15.5: a whole datagram of which 8 bytes are there, byte by byte, over IPv6.
func TestQuote6Example(t *testing.T) {
	s, e := Quote6(packet4(17, "\x03\xe8\x00\x35\x00\x64\x12\x34"), 100, here6, there6)
	want := "\x6a\x50\x00\x00\x00\x64\x11\x3f" + string(from6[:]) + string(to6[:]) + "\x12\x34\xfe\xdc\x00\x64\x63\x6c"
	if s != want || e != nil {
		t.Errorf("%q, %v, not %q", s, e, want)
	}
	p := packet4(17, "rest of it")
	p.At, p.More = 0x1238, true
	s, e = Quote6(p, 16, here6, there6)
	want = "\x6a\x50\x00\x00\x00\x18\x2c\x3f" + string(from6[:]) + string(to6[:]) + "\x11\x00\x12\x39\x00\x00\xba\x98" + "rest of it"
	if s != want || e != nil {
		t.Errorf("%q, %v, not %q", s, e, want)
	}
}

// P15.5: the same over IPv4.
func TestQuote4Example(t *testing.T) {
	s, e := Quote4(packet6(17, "\x12\x34\xfe\xdc\x00\x64\x63\x6c"), 100, api.T4{Addr: from4, Port: 1000}, api.T4{Addr: to4, Port: 53})
	want := "\x45\xa5\x00\x78\x00\x00\x00\x00\x40\x11\x8c\x7d" + string(from4[:]) + string(to4[:]) + "\x03\xe8\x00\x35\x00\x64\x12\x34"
	if s != want || e != nil {
		t.Errorf("%q, %v, not %q", s, e, want)
	}
	s, e = Quote4(piece6(58, 0x1238, true, "rest of it"), 16, here4, there4)
	want = "\x45\xa5\x00\x24\xba\x98\x22\x47\x40\x01\x36\x21" + string(own4[:]) + string(to4[:]) + "rest of it"
	if s != want || e != nil {
		t.Errorf("%q, %v, not %q", s, e, want)
	}
}

// P15.5: each number at its bounds, one beyond, and far beyond.
func TestQuote6Bounds(t *testing.T) {
	for _, x := range []struct {
		what  string
		put   func(p *api.Ip4, from, to *api.T6, n int)
		most  int
		eight bool
	}{
		{"Tos", func(p *api.Ip4, _, _ *api.T6, n int) { p.Tos = n }, 255, false},
		{"Ttl", func(p *api.Ip4, _, _ *api.T6, n int) { p.Ttl = n }, 255, false},
		{"Id", func(p *api.Ip4, _, _ *api.T6, n int) { p.Id = n }, 65535, false},
		{"from's port", func(_ *api.Ip4, from, _ *api.T6, n int) { from.Port = n }, 65535, false},
		{"to's port", func(_ *api.Ip4, _, to *api.T6, n int) { to.Port = n }, 65535, false},
		{"At", func(p *api.Ip4, _, _ *api.T6, n int) { p.At = n }, 65528, true},
	} {
		for _, n := range append([]int{0, 1, 2, 4, 7, 8, 9, 127, 128, 254, 255, 256, 257, 4096, 32760, 32768, 65520, 65527, 65528, 65529, 65534, 65535, 65536, 65537, 131072}, far...) {
			for _, more := range []bool{false, true} {
				for _, proto := range []int{6, 17, 1} {
					p, from, to := packet4(proto, "\x08\x00datagram"), here6, there6
					p.More = more
					x.put(&p, &from, &to, n)
					code := asksQuote6(t, []any{x.what, n}, p, 10, from, to)
					want := api.OK
					if n < 0 || n > x.most || x.eight && n%8 != 0 {
						want = api.ErrRange
					}
					expectCode(t, []any{x.what, n}, code, want)
				}
			}
		}
	}
}

// P15.5: the same over IPv4; an Id and a Flow have no bounds there.
func TestQuote4Bounds(t *testing.T) {
	for _, x := range []struct {
		what  string
		put   func(p *api.Ip6, from, to *api.T4, n int)
		most  int
		eight bool
	}{
		{"Class", func(p *api.Ip6, _, _ *api.T4, n int) { p.Class = n }, 255, false},
		{"Hop", func(p *api.Ip6, _, _ *api.T4, n int) { p.Hop = n }, 255, false},
		{"from's port", func(_ *api.Ip6, from, _ *api.T4, n int) { from.Port = n }, 65535, false},
		{"to's port", func(_ *api.Ip6, _, to *api.T4, n int) { to.Port = n }, 65535, false},
		{"At", func(p *api.Ip6, _, _ *api.T4, n int) { p.At = n }, 65528, true},
	} {
		for _, n := range append([]int{0, 1, 2, 4, 7, 8, 9, 127, 128, 254, 255, 256, 257, 4096, 32760, 32768, 65496, 65504, 65512, 65520, 65527, 65528, 65529, 65534, 65535, 65536, 65537, 131072}, far...) {
			for _, proto := range []int{6, 17, 58} {
				p, from, to := piece6(proto, 0, false, "\x80\x00datagram"), here4, there4
				x.put(&p, &from, &to, n)
				code := asksQuote4(t, []any{x.what, n}, p, 10, from, to)
				want := api.OK
				switch {
				case n < 0 || n > x.most || x.eight && n%8 != 0:
					want = api.ErrRange
				case x.eight && n+30 > 65535:
					want = api.ErrLong
				}
				expectCode(t, []any{x.what, n}, code, want)
				p.Frag, p.Id = false, 0
				asksQuote4(t, []any{x.what, n}, p, 10, from, to)
			}
		}
	}
	for _, flow := range append([]int{0, 1, 1<<20 - 1, 1 << 20}, far...) {
		p := packet6(6, some(30))
		p.Flow = flow
		expectCode(t, flow, asksQuote4(t, flow, p, 30, here4, there4), api.OK)
	}
	for _, id := range []uint32{0, 1, 65535, 65536, 65537, 1 << 31, 1<<32 - 1} {
		p := piece6(6, 8, true, some(30))
		p.Id = id
		expectCode(t, id, asksQuote4(t, id, p, 30, here4, there4), api.OK)
		if s, _ := Quote4(p, 30, here4, there4); s[4:6] != two(int(id)) {
			t.Errorf("%d: %q", id, s[4:6])
		}
		p.Frag = false
		if s, _ := Quote4(p, 30, here4, there4); s[4:6] != "\x00\x00" {
			t.Errorf("%d without Frag: %q", id, s[4:6])
		}
	}
}

// P15.5: claims below, at and above the length of the data, and at the most that may stand behind a head.
func TestQuote6Claims(t *testing.T) {
	for _, n := range []int{0, 1, 8, 20, 100} {
		for _, proto := range []int{6, 17, 1} {
			for _, x := range []struct {
				at, most int
				more     bool
			}{{0, 65535, false}, {0, 65527, true}, {8, 65527, false}, {65528, 65527, true}} {
				for _, claim := range append([]int{0, n - 1, n, n + 1, 1000, 65515, 65516, 65526, 65527, 65528, 65534, 65535, 65536, 65543}, far...) {
					p := packet4(proto, ("\x08\x00" + some(98))[:n])
					p.At, p.More = x.at, x.more
					code := asksQuote6(t, []any{n, proto, x, claim}, p, claim, here6, there6)
					want := api.OK
					switch {
					case claim < n:
						want = api.ErrRange
					case claim > x.most:
						want = api.ErrLong
					}
					expectCode(t, []any{n, proto, x, claim}, code, want)
				}
			}
		}
	}
	for _, n := range []int{65526, 65527, 65528, 65535, 65536, 70000} {
		p := packet4(6, strings.Repeat("x", n))
		expect(t, n, asksQuote6(t, n, p, n, here6, there6) == api.OK, n <= 65535)
		p.More = true
		expect(t, n, asksQuote6(t, n, p, n, here6, there6) == api.OK, n <= 65527)
	}
}

// P15.5: the same over IPv4, where At counts, and by the claim it is told what may not be cut.
func TestQuote4Claims(t *testing.T) {
	for _, n := range []int{0, 1, 8, 20, 40} {
		for _, proto := range []int{6, 17, 58} {
			for _, at := range []int{0, 8, 1024, 65504, 65512, 65520} {
				for _, frag := range []bool{false, true} {
					for _, claim := range append([]int{0, n - 1, n, n + 1, 1239, 1240, 1241, 1260, 65515 - at - 1, 65515 - at, 65515 - at + 1, 65516, 65535, 65536}, far...) {
						p := packet6(proto, ("\x80\x00" + some(98))[:n])
						p.Frag, p.At, p.More = frag, at, at == 1024
						code := asksQuote4(t, []any{n, proto, at, frag, claim}, p, claim, here4, there4)
						want := api.OK
						switch {
						case claim < n:
							want = api.ErrRange
						case claim > 65515-at:
							want = api.ErrLong
						}
						expectCode(t, []any{n, proto, at, frag, claim}, code, want)
						s, _ := Quote4(p, claim, here4, there4)
						if code == api.OK && (s[6]&0x40 != 0) != (!frag && claim > 1240) {
							t.Errorf("%v, %d: DF is %v", frag, claim, s[6]&0x40 != 0)
						}
					}
				}
			}
		}
	}
	for _, n := range []int{65514, 65515, 65516, 65535, 65536, 70000} {
		expect(t, n, asksQuote4(t, n, packet6(6, strings.Repeat("x", n)), n, here4, there4) == api.OK, n <= 65515)
	}
}

// P15.5: every protocol, with those that have none over the other family, and numbers that are none.
func TestQuoteProtocols(t *testing.T) {
	for n := -300; n <= 600; n++ {
		quoted(t, n)
	}
	for _, n := range append([]int{65536 + 6, 65536 + 17, 65536 + 58, 1<<32 + 1, 1<<32 + 6, 1<<32 + 58}, far...) {
		quoted(t, n)
	}
	for _, n := range append([]int{1}, kept...) {
		expectCode(t, n, asksQuote6(t, n, packet4(n, some(40)), 40, here6, there6), api.OK)
	}
	for _, n := range append([]int{58}, kept...) {
		expectCode(t, n, asksQuote4(t, n, packet6(n, some(40)), 40, here4, there4), api.OK)
	}
	for _, n := range refused4 {
		expectCode(t, n, asksQuote6(t, n, packet4(n, some(40)), 40, here6, there6), api.ErrKind)
	}
	for _, n := range refused6 {
		expectCode(t, n, asksQuote4(t, n, packet6(n, some(40)), 40, here4, there4), api.ErrKind)
	}
}

// quoted asks of quotes of that protocol whether there is one over the other family, whole and in pieces.
func quoted(t *testing.T, n int) {
	t.Helper()
	p := packet4(n, some(40))
	for _, at := range []int{0, 8} {
		p.At = at
		want := api.ErrKind
		if _, ok := head46.Proto(n); ok {
			want = api.OK
		}
		expectCode(t, n, asksQuote6(t, n, p, 40, here6, there6), want)
		want = api.ErrKind
		if _, ok := head64.Proto(n); ok {
			want = api.OK
		}
		expectCode(t, n, asksQuote4(t, n, piece6(n, at, true, some(40)), 40, here4, there4), want)
		expectCode(t, n, asksQuote4(t, n, packet6(n, some(40)), 40, here4, there4), want)
	}
}

// P15.5: of several faults the one that the promise names first.
func TestQuoteOrder(t *testing.T) {
	p := packet4(58, some(40))
	expectCode(t, "the claim ahead of the protocol", asksQuote6(t, "range, kind", p, 39, here6, there6), api.ErrRange)
	expectCode(t, "the protocol ahead of the length", asksQuote6(t, "kind, long", p, 65536, here6, there6), api.ErrKind)
	p.Tos = 256
	expectCode(t, "Tos ahead of all", asksQuote6(t, "range, kind, long", p, 65536, here6, there6), api.ErrRange)
	p = packet4(6, some(40))
	p.Id = -1
	expectCode(t, "Id ahead of the length", asksQuote6(t, "range, long", p, math.MaxInt, here6, there6), api.ErrRange)
	expectCode(t, "ports ahead of the length", asksQuote6(t, "range, long", packet4(6, ""), 65536, api.T6{Port: -1}, there6), api.ErrRange)
	expectCode(t, "ports ahead of the protocol", asksQuote6(t, "range, kind", packet4(0, ""), 0, here6, api.T6{Port: 65536}), api.ErrRange)

	q := packet6(1, some(40))
	expectCode(t, "the claim ahead of the protocol", asksQuote4(t, "range, kind", q, 39, here4, there4), api.ErrRange)
	expectCode(t, "the protocol ahead of the length", asksQuote4(t, "kind, long", q, 65536, here4, there4), api.ErrKind)
	q.Hop = 256
	expectCode(t, "Hop ahead of all", asksQuote4(t, "range, kind, long", q, 65536, here4, there4), api.ErrRange)
	q = packet6(6, some(40))
	q.At = 65529
	expectCode(t, "At ahead of the length", asksQuote4(t, "range, long", q, math.MaxInt, here4, there4), api.ErrRange)
	expectCode(t, "ports ahead of the length", asksQuote4(t, "range, long", packet6(6, ""), 65536, api.T4{Port: -1}, there4), api.ErrRange)
	expectCode(t, "ports ahead of the protocol", asksQuote4(t, "range, kind", packet6(0, ""), 0, here4, api.T4{Port: 65536}), api.ErrRange)
}

// P15.5: what is quoted whole is a packet of the other family with just what the head said; DF, options, flow and extensions are left behind.
func TestQuotesArePackets(t *testing.T) {
	for _, at := range []int{0, 8, 65000} {
		for _, more := range []bool{false, true} {
			p := packet4(47, some(48))
			p.At, p.More = at, more
			s, e := Quote6(p, 48, here6, there6)
			q, f := ip6.Parse(s)
			want := api.Ip6{Class: 0xa5, Hop: 63, From: here6.Addr, To: there6.Addr, Proto: 47, Data: p.Data}
			if at > 0 || more {
				want.Frag, want.Id, want.At, want.More = true, 0xba98, at, more
			}
			if e != nil || f != nil || !same6(q, want) {
				t.Errorf("%s: %s, %v, %v", brief(p), brief(q), e, f)
			}
			x := piece6(47, at, more, some(48))
			s, e = Quote4(x, 48, here4, there4)
			y, f := ip4.Parse(s)
			if e != nil || f != nil || y != (api.Ip4{Tos: 0xa5, Id: 0xba98, Ttl: 64, Proto: 47, At: at, More: more, From: here4.Addr, To: there4.Addr, Data: x.Data}) {
				t.Errorf("%s: %s, %v, %v", brief(x), brief(y), e, f)
			}
		}
	}
	for _, n := range []int{0, 8, 1240, 1241, 2000} {
		s, e := Quote4(packet6(47, some(n)), n, here4, there4)
		y, f := ip4.Parse(s)
		if e != nil || f != nil || y != (api.Ip4{Tos: 0xa5, Ttl: 64, Proto: 47, DF: n > 1240, From: here4.Addr, To: there4.Addr, Data: some(n)}) {
			t.Errorf("%d: %s, %v, %v", n, brief(y), e, f)
		}
	}
}

// P15.5: without Frag At and More are said all the same, as they are the packet's; an Id is not.
func TestQuote4WithoutFrag(t *testing.T) {
	p := packet6(17, some(24))
	p.At, p.More, p.Id = 0x1238, true, 77
	s, e := Quote4(p, 2000, here4, there4)
	if e != nil || s[4:8] != "\x00\x00\x62\x47" || s[20:] != p.Data {
		t.Errorf("%s, %v", brief(s), e)
	}
}

// R4: what is handed in stays, with its spare room.
func TestQuote4KeepsExts(t *testing.T) {
	p := packet6(17, some(24))
	spare := append(p.Exts, api.Ext{Kind: 43, Body: "spared"})
	p.Exts = spare[:2]
	first, e := Quote4(p, 24, here4, there4)
	again, f := Quote4(p, 24, here4, there4)
	if first != again || e != nil || f != nil || spare[0].Kind != 0 || spare[2] != (api.Ext{Kind: 43, Body: "spared"}) {
		t.Errorf("%s, %s, %v, %v, %v", brief(first), brief(again), e, f, spare)
	}
}
