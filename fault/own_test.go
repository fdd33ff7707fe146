package fault

import (
	"strings"
	"testing"

	"interpreter/api"
	"interpreter/icmp4"
	"interpreter/icmp6"
	"interpreter/ip4"
	"interpreter/ip6"
	"interpreter/sum"
	"interpreter/udp"
)

// Messages that are errors over IPv4 and over IPv6, whose Data are not what is quoted.
var (
	expired4 = api.Msg{Kind: 11, Code: 1, Rest: 0x89abcdef, Data: "lost"}
	expired6 = api.Msg{Kind: 3, Code: 1, Rest: 0x89abcdef, Data: "lost"}
)

// P15.1: the chapter's examples, byte by byte.
func TestOwn4Examples(t *testing.T) {
	data, e := udp.Bytes(api.Dgram{From: 1000, To: 53, Data: strings.Repeat("d", 592)}, sum.Pseudo4(from4, to4, api.Udp, 600))
	if e != nil {
		t.Fatal(e)
	}
	s := bytes4(t, api.Ip4{Id: 1, Ttl: 1, Proto: api.Udp, From: from4, To: to4, Data: data})
	b, ok := Own4(api.Msg{Kind: 11}, s, own4, 9, 1500)
	p, e := ip4.Parse(b)
	if !ok || e != nil || len(b) != 576 {
		t.Fatalf("%v, %v, %d bytes", ok, e, len(b))
	}
	m, e := icmp4.Parse(p.Data)
	if e != nil || len(m.Data) != 548 || m.Data != s[:548] {
		t.Errorf("%v, %d bytes are quoted", e, len(m.Data))
	}
	if s, ok := Own4(api.Msg{Kind: 11}, b, to4, 9, 1500); ok || s != "" {
		t.Errorf("about an error: %s, %v", brief(s), ok)
	}
	b, ok = Own4(api.Msg{Kind: 3, Code: 3, Rest: 0x01020304}, bytes4(t, api.Ip4{Ttl: 1, Proto: 6, From: api.V4{10, 0, 0, 1}, To: api.V4{10, 0, 0, 2}}), api.V4{10, 0, 0, 3}, 0x10007, 68)
	want := "\x45\x00\x00\x30\x00\x07\x00\x00\x40\x01\x66\xc3\x0a\x00\x00\x03\x0a\x00\x00\x01" +
		"\x03\x03\xf8\xf6\x01\x02\x03\x04" + "\x45\x00\x00\x14\x00\x00\x00\x00\x01\x06\xa5\xe2\x0a\x00\x00\x01\x0a\x00\x00\x02"
	if !ok || b != want {
		t.Errorf("%q, %v", b, ok)
	}
}

// P15.1, R6: what stands in each field of the answer; of the packet's head, and of m's Data, nothing is there but what is quoted.
func TestOwn4Fields(t *testing.T) {
	s := bytes4(t, packet4(6, some(100)))
	for id, want := range map[int]int{0: 0, 1: 1, 0x1234: 0x1234, 65535: 65535, 65536: 0, 65537: 1, -1: 65535, -2: 65534, -65535: 1, -65536: 0, -65537: 65535, 1 << 32: 0, 1<<32 + 5: 5, -1<<63 + 7: 7, 1<<63 - 1: 65535} {
		b, ok := Own4(expired4, s, own4, id, 1500)
		p, e := ip4.Parse(b)
		if !ok || e != nil {
			t.Fatalf("Id %d: %v, %v", id, ok, e)
		}
		m, e := icmp4.Parse(p.Data)
		if e != nil || m != (api.Msg{Kind: 11, Code: 1, Rest: 0x89abcdef, Data: s}) {
			t.Errorf("Id %d: %s, %v", id, brief(m), e)
		}
		p.Data = ""
		if p != (api.Ip4{Id: want, Ttl: 64, Proto: 1, From: own4, To: from4}) {
			t.Errorf("Id %d: %s", id, brief(p))
		}
		asksOwn4(t, id, expired4, s, own4, id, 1500)
	}
	for _, from := range []api.V4{{}, {127, 0, 0, 1}, {255, 255, 255, 255}, from4} {
		expect(t, from, asksOwn4(t, from, expired4, s, from, 1, 1500), true)
	}
}

// P15.1: every Kind with Codes at their bounds; only errors that have bytes are sent.
func TestOwn4Messages(t *testing.T) {
	s := bytes4(t, packet4(17, some(30)))
	for kind := -3; kind < 260; kind++ {
		for _, code := range append([]int{0, 1, 4, 16, 254, 255, 256, 257, 512}, far...) {
			m := api.Msg{Kind: kind, Code: code, Rest: 77, Data: some(1000)}
			ok := asksOwn4(t, m, m, s, own4, 1, 1500)
			expect(t, []int{kind, code}, ok, among(kind, 3, 4, 5, 11, 12) && code >= 0 && code <= 255)
		}
	}
	for _, kind := range append([]int{259, 260, 261, 267, 268, 65536 + 3, 1<<32 + 11}, far...) {
		expect(t, kind, asksOwn4(t, kind, api.Msg{Kind: kind}, s, own4, 1, 1500), false)
	}
	for _, rest := range []uint32{0, 1, 1 << 16, 1 << 31, 1<<32 - 1} {
		expect(t, rest, asksOwn4(t, rest, api.Msg{Kind: 5, Rest: rest}, s, own4, 1, 1500), true)
	}
}

// P15.1: MTUs at their bounds, one beyond, and far beyond.
func TestOwn4Mtus(t *testing.T) {
	s := bytes4(t, packet4(17, some(1000)))
	for _, mtu := range append([]int{0, 1, 28, 66, 67, 68, 69, 75, 76, 575, 576, 577, 1280, 1500, 65534, 65535, 65536, 65575}, far...) {
		b, ok := Own4(expired4, s, own4, 1, mtu)
		expect(t, mtu, ok, mtu >= 68 && mtu <= 65535)
		if ok && len(b) != min(mtu, 576) {
			t.Errorf("%d: %d bytes", mtu, len(b))
		}
		asksOwn4(t, mtu, expired4, s, own4, 1, mtu)
	}
}

// P15.1: packets about as long as may be quoted, with options of all lengths; a quote has the head and 8 bytes, or is all of the packet.
func TestOwn4Quotes(t *testing.T) {
	none, all, some4 := 0, 0, 0
	for options := 0; options <= 40; options += 4 {
		for _, mtu := range []int{68, 69, 72, 75, 76, 77, 80, 84, 88, 95, 96, 97, 100, 575, 576, 577, 1500} {
			room := min(mtu, 576) - 28
			head := 20 + options
			for _, n := range []int{0, 1, 7, 8, 9, 12, 16, 20, 40, room - head - 1, room - head, room - head + 1, room - head + 8, 547, 548, 549, 600} {
				if n < 0 {
					continue
				}
				s := bytes4(t, api.Ip4{Ttl: 1, Proto: 17, From: from4, To: to4, Options: strings.Repeat("\x01", options), Data: some(n)})
				ok := asksOwn4(t, []int{options, mtu, n}, expired4, s, own4, 1, mtu)
				expect(t, []int{options, mtu, n}, ok, head+n <= room || head+8 <= room)
				switch {
				case !ok:
					none++
				case head+n <= room:
					all++
				default:
					some4++
				}
			}
		}
	}
	if none < 100 || all < 100 || some4 < 100 {
		t.Error(none, all, some4)
	}
}

// P15.1: what is no packet, or a later piece, or comes from nobody, is told nothing; what stands behind a packet does not count.
func TestOwn4Packets(t *testing.T) {
	p := packet4(17, some(32))
	s := bytes4(t, p)
	for n := range s {
		expect(t, n, asksOwn4(t, n, expired4, s[:n], own4, 1, 1500), false)
	}
	b, _ := Own4(expired4, s, own4, 1, 1500)
	for _, behind := range []string{"", "x", "behind", s, strings.Repeat("behind", 1000)} {
		if c, ok := Own4(expired4, s+behind, own4, 1, 1500); !ok || c != b {
			t.Errorf("with %s behind: %s, %v", brief(behind), brief(c), ok)
		}
	}
	for bit := range 24 * 8 {
		turned := []byte(s)
		turned[bit/8] ^= 1 << (bit % 8)
		asksOwn4(t, bit, expired4, string(turned), own4, 1, 1500)
		asksOwn4(t, bit, expired4, withSum4(turned), own4, 1, 1500)
	}
	for _, at := range []int{0, 8, 16, 4096, 65472} {
		for _, more := range []bool{false, true} {
			p.At, p.More = at, more
			expect(t, []any{at, more}, asksOwn4(t, at, expired4, bytes4(t, p), own4, 1, 1500), at == 0)
		}
	}
	p.At, p.More = 0, false
	for first := range 256 {
		for _, rest := range []api.V4{{0, 0, 0, 0}, {0, 254, 0, 1}, {0, 255, 255, 255}, {0, 169, 254, 1}} {
			p.From = rest
			p.From[0] = byte(first)
			nobody := among(first, 0, 127) || first >= 224 || first == 169 && rest[1] == 254
			expect(t, p.From, asksOwn4(t, p.From, expired4, bytes4(t, p), own4, 1, 1500), !nobody)
		}
	}
	p.From = from4
	for _, to := range []api.V4{{}, {127, 0, 0, 1}, {224, 0, 0, 1}, {255, 255, 255, 255}, from4} {
		p.To = to
		expect(t, to, asksOwn4(t, to, expired4, bytes4(t, p), own4, 1, 1500), true)
	}
	for _, empty := range []string{"", "\x45", strings.Repeat("\x00", 20), strings.Repeat("\xff", 60)} {
		expect(t, empty, asksOwn4(t, empty, expired4, empty, own4, 1, 1500), false)
	}
}

// P15.1, P15.7: there is no error about an error, nor about a message of which not even the Kind is there.
func TestOwn4AboutIcmp(t *testing.T) {
	for _, more := range []bool{false, true} {
		for kind := range 256 {
			p := packet4(1, one(kind)+some(7))
			p.More = more
			expect(t, kind, asksOwn4(t, kind, expired4, bytes4(t, p), own4, 1, 1500), !among(kind, 3, 4, 5, 11, 12))
		}
	}
	expect(t, "no data", asksOwn4(t, "no data", expired4, bytes4(t, packet4(1, "")), own4, 1, 1500), false)
	expect(t, "one byte", asksOwn4(t, "one byte", expired4, bytes4(t, packet4(1, "\x08")), own4, 1, 1500), true)
	expect(t, "an error's one byte", asksOwn4(t, "an error's one byte", expired4, bytes4(t, packet4(1, "\x03")), own4, 1, 1500), false)
	for _, proto := range []int{0, 2, 6, 17, 58, 255} {
		expect(t, proto, asksOwn4(t, proto, expired4, bytes4(t, packet4(proto, "\x03\x01\x00\x00\x00\x00\x00\x00")), own4, 1, 1500), true)
		expect(t, proto, asksOwn4(t, proto, expired4, bytes4(t, packet4(proto, "")), own4, 1, 1500), true)
	}
}

// P15.2: an error about a small packet, byte by byte, and one about a long one.
func TestOwn6Examples(t *testing.T) {
	s := bytes6(t, api.Ip6{Hop: 1, Proto: 17, From: api.V6{0x20, 1, 15: 5}, To: api.V6{0x20, 1, 15: 9}, Data: "hi"})
	b, ok := Own6(api.Msg{Kind: 1, Code: 4, Rest: 0x01020304}, s, api.V6{0x20, 1, 15: 1}, 1280)
	want := "\x60\x00\x00\x00\x00\x32\x3a\x40" + "\x20\x01\x00\x00\x00\x00\x00\x00\x00\x00\x00\x00\x00\x00\x00\x01" + "\x20\x01\x00\x00\x00\x00\x00\x00\x00\x00\x00\x00\x00\x00\x00\x05" +
		"\x01\x04\xa1\x04\x01\x02\x03\x04" + s
	if !ok || b != want {
		t.Errorf("%q, %v", b, ok)
	}
	s = bytes6(t, api.Ip6{Hop: 1, Proto: 17, From: from6, To: to6, Data: some(1400)})
	b, ok = Own6(api.Msg{Kind: 3}, s, own6, 1500)
	q, e := ip6.Parse(b)
	if !ok || e != nil || len(b) != 1280 {
		t.Fatalf("%v, %v, %d bytes", ok, e, len(b))
	}
	if m, e := icmp6.Parse(q.Data, sum.Pseudo6(own6, from6, 58, 1240)); e != nil || m.Data != s[:1232] {
		t.Errorf("%v, %d bytes are quoted", e, len(m.Data))
	}
}

// P15.2, R6: what stands in each field of the answer.
func TestOwn6Fields(t *testing.T) {
	s := bytes6(t, packet6(6, some(100)))
	for _, from := range []api.V6{own6, from6, {}, {15: 1}, {0xff, 2, 15: 1}} {
		b, ok := Own6(expired6, s, from, 1500)
		p, e := ip6.Parse(b)
		if !ok || e != nil {
			t.Fatalf("%v: %v, %v", from, ok, e)
		}
		m, e := icmp6.Parse(p.Data, sum.Pseudo6(from, from6, 58, len(p.Data)))
		if e != nil || m != (api.Msg{Kind: 3, Code: 1, Rest: 0x89abcdef, Data: s}) {
			t.Errorf("%v: %s, %v", from, brief(m), e)
		}
		p.Data = ""
		if !same6(p, api.Ip6{Hop: 64, From: from, To: from6, Proto: 58}) {
			t.Errorf("%v: %s", from, brief(p))
		}
		asksOwn6(t, from, expired6, s, from, 1500)
	}
}

// P15.2: every Kind with Codes at their bounds; only errors that have bytes are sent.
func TestOwn6Messages(t *testing.T) {
	s := bytes6(t, packet6(17, some(30)))
	for kind := -3; kind < 260; kind++ {
		for _, code := range append([]int{0, 1, 4, 16, 254, 255, 256, 257, 512}, far...) {
			m := api.Msg{Kind: kind, Code: code, Rest: 77, Data: some(2000)}
			ok := asksOwn6(t, m, m, s, own6, 1500)
			expect(t, []int{kind, code}, ok, kind >= 1 && kind <= 127 && code >= 0 && code <= 255)
		}
	}
	for _, kind := range append([]int{257, 258, 65536 + 3, 1<<32 + 1}, far...) {
		expect(t, kind, asksOwn6(t, kind, api.Msg{Kind: kind}, s, own6, 1500), false)
	}
	for _, rest := range []uint32{0, 1, 1 << 16, 1 << 31, 1<<32 - 1} {
		expect(t, rest, asksOwn6(t, rest, api.Msg{Kind: 2, Rest: rest}, s, own6, 1500), true)
	}
}

// P15.2: MTUs at their bounds, one beyond, and far beyond; the error has never more than 1280 bytes.
func TestOwn6Mtus(t *testing.T) {
	s := bytes6(t, packet6(17, some(2000)))
	for _, mtu := range append([]int{0, 1, 68, 576, 1232, 1278, 1279, 1280, 1281, 1500, 65535, 65536, 65574, 65575, 65576, 65577}, far...) {
		b, ok := Own6(expired6, s, own6, mtu)
		expect(t, mtu, ok, mtu >= 1280 && mtu <= 65575)
		if ok && len(b) != 1280 {
			t.Errorf("%d: %d bytes", mtu, len(b))
		}
		asksOwn6(t, mtu, expired6, s, own6, mtu)
	}
}

// P15.2: packets about as long as may be quoted, with extensions of all lengths; a quote has the heads and 8 bytes, or is all of the packet.
func TestOwn6Quotes(t *testing.T) {
	for _, chain := range []int{0, 8, 16, 80, 1168, 1176, 1184, 1192, 1200, 2040, 2048, 2056, 8 * 2048} {
		for _, piece := range []bool{false, true} {
			heads := 40 + chain
			p := api.Ip6{Hop: 1, From: from6, To: to6, Exts: exts(chain), Proto: 17, Frag: piece}
			if piece {
				heads += 8
			}
			for _, n := range []int{0, 1, 7, 8, 9, 16, 100, 1231 - heads, 1232 - heads, 1233 - heads, 1240 - heads, 1300, 1400} {
				if n < 0 {
					continue
				}
				p.Data = some(n)
				ok := asksOwn6(t, []any{chain, piece, n}, expired6, bytes6(t, p), own6, 1500)
				expect(t, []any{chain, piece, n}, ok, heads+n <= 1232 || heads+8 <= 1232)
			}
		}
	}
}

// P15.2: what is no packet, or a later piece, or comes from nobody, is told nothing; what stands behind a packet does not count.
func TestOwn6Packets(t *testing.T) {
	p := piece6(17, 0, true, some(32))
	s := bytes6(t, p)
	for n := range s {
		expect(t, n, asksOwn6(t, n, expired6, s[:n], own6, 1500), false)
	}
	b, _ := Own6(expired6, s, own6, 1500)
	for _, behind := range []string{"", "x", "behind", s, strings.Repeat("behind", 1000)} {
		if c, ok := Own6(expired6, s+behind, own6, 1500); !ok || c != b {
			t.Errorf("with %s behind: %s, %v", brief(behind), brief(c), ok)
		}
	}
	for bit := range 100 * 8 {
		turned := []byte(s)
		turned[bit/8] ^= 1 << (bit % 8)
		asksOwn6(t, bit, expired6, string(turned), own6, 1500)
	}
	for _, at := range []int{0, 8, 16, 4096, 65472} {
		for _, more := range []bool{false, true} {
			expect(t, []any{at, more}, asksOwn6(t, at, expired6, bytes6(t, piece6(17, at, more, some(32))), own6, 1500), at == 0)
		}
	}
	for _, x := range []struct {
		from api.V6
		ok   bool
	}{
		{api.V6{}, false}, {api.V6{15: 1}, false}, {api.V6{15: 2}, true}, {api.V6{10: 0xff, 11: 0xff, 12: 192}, false}, {api.V6{10: 0xff, 11: 0xfe, 12: 192}, true},
		{api.V6{0xfe, 0x80, 15: 1}, false}, {api.V6{0xfe, 0xbf, 15: 1}, false}, {api.V6{0xfe, 0xc0, 15: 1}, true}, {api.V6{0xff, 2, 15: 1}, false}, {api.V6{0xff}, false}, {api.V6{0xfd, 15: 1}, true}, {own6, true}, {to6, true},
	} {
		q := packet6(17, "datagram")
		q.From = x.from
		for _, kind := range []int{1, 2, 3, 4, 127} {
			expect(t, []any{x.from, kind}, asksOwn6(t, x.from, api.Msg{Kind: kind}, bytes6(t, q), own6, 1500), x.ok)
		}
	}
	for _, empty := range []string{"", "\x60", strings.Repeat("\x00", 40), strings.Repeat("\xff", 60)} {
		expect(t, empty, asksOwn6(t, empty, expired6, empty, own6, 1500), false)
	}
}

// P15.2: of packets to many only that they are too big is told.
func TestOwn6ToMany(t *testing.T) {
	for first := range 256 {
		p := packet6(17, "datagram")
		p.To[0] = byte(first)
		s := bytes6(t, p)
		for _, kind := range []int{1, 2, 3, 4, 5, 100, 127} {
			expect(t, []int{first, kind}, asksOwn6(t, first, api.Msg{Kind: kind}, s, own6, 1500), first != 255 || kind == 2)
		}
		expect(t, first, asksOwn6(t, first, api.Msg{Kind: 2, Code: 9}, s, own6, 1500), true)
		expect(t, first, asksOwn6(t, first, api.Msg{Kind: 2, Code: 256}, s, own6, 1500), false)
	}
}

// P15.2, P15.7: there is no error about an error, nor about a message of which not even the Kind is there.
func TestOwn6AboutIcmp(t *testing.T) {
	for kind := range 256 {
		for _, m := range []api.Msg{expired6, {Kind: 2, Rest: 1280}} {
			expect(t, kind, asksOwn6(t, kind, m, bytes6(t, packet6(58, one(kind)+some(7))), own6, 1500), kind >= 128)
			expect(t, kind, asksOwn6(t, kind, m, bytes6(t, piece6(58, 0, true, one(kind)+some(7))), own6, 1500), kind >= 128)
		}
	}
	for _, x := range []struct {
		data string
		ok   bool
	}{{"", false}, {"\x7f", false}, {"\x80", true}, {"\x00", false}} {
		expect(t, x.data, asksOwn6(t, x.data, expired6, bytes6(t, packet6(58, x.data)), own6, 1500), x.ok)
		expect(t, x.data, asksOwn6(t, x.data, expired6, bytes6(t, piece6(58, 0, false, x.data)), own6, 1500), x.ok)
	}
	for _, proto := range []int{1, 2, 6, 17, 59, 255} {
		expect(t, proto, asksOwn6(t, proto, expired6, bytes6(t, packet6(proto, "\x03\x01\x00\x00\x00\x00\x00\x00")), own6, 1500), true)
		expect(t, proto, asksOwn6(t, proto, expired6, bytes6(t, packet6(proto, "")), own6, 1500), true)
	}
	s, ok := Own6(expired6, bytes6(t, packet6(17, some(100))), own6, 1500)
	expect(t, "about a datagram", ok, true)
	expect(t, "about an error", asksOwn6(t, "about an error", expired6, s, own6, 1500), false)
}

// P15.7: whatever the packet, an error of the gateway's own is a packet, no longer than it may be, that quotes a beginning, from which it is told whose the packet was.
func TestOwnOfWhatever(t *testing.T) {
	r := chance()
	sent4, sent6 := 0, 0
	for range 3000 {
		p := packet4(carried(r.Intn(4)), anyText(r, 700))
		p.Options = strings.Repeat("\x01", 4*r.Intn(11))
		p.More = r.Intn(4) == 0 && len(p.Data) > 8
		if p.More {
			p.Data = p.Data[:len(p.Data)/8*8]
		}
		s := bytes4(t, p)
		mtu := 68 + r.Intn(600)
		if asksOwn4(t, p, expired4, s, own4, 1, mtu) {
			sent4++
			ownQuotes4(t, s, mtu)
		}
		q := packet6(carried(r.Intn(4)), anyText(r, 1400))
		q.Exts = exts(8 * r.Intn(20))
		s = bytes6(t, q)
		if asksOwn6(t, q, expired6, s, own6, 1280+r.Intn(300)) {
			sent6++
			ownQuotes6(t, s)
		}
	}
	if sent4 < 1000 || sent6 < 1000 {
		t.Error(sent4, sent6)
	}
}

// carried is one of the protocols that are looked into over a family.
func carried(n int) int { return []int{6, 17, 1, 58}[n] }

// ownQuotes4 asks that an error of the gateway's own quotes a packet's beginning.
func ownQuotes4(t *testing.T, s string, mtu int) {
	t.Helper()
	b, _ := Own4(expired4, s, own4, 1, mtu)
	p, e := ip4.Parse(b)
	m, f := icmp4.Parse(p.Data)
	if e != nil || f != nil || len(b) > mtu || len(b) > 576 || !strings.HasPrefix(s, m.Data) {
		t.Errorf("%s: %v, %v, %s", brief(s), e, f, brief(b))
	}
	q, claim, e := Inside4(m.Data)
	whole, f := ip4.Parse(s)
	if e != nil || f != nil || claim != len(whole.Data) || q.From != whole.From || q.To != whole.To {
		t.Errorf("%s: %v, %v, %s, %d", brief(s), e, f, brief(q), claim)
	}
	if _, ok := Own4(expired4, b, own4, 1, mtu); ok {
		t.Errorf("%s: an error about an error", brief(s))
	}
}

// ownQuotes6 asks that an error of the gateway's own quotes a packet's beginning.
func ownQuotes6(t *testing.T, s string) {
	t.Helper()
	b, _ := Own6(expired6, s, own6, 1280)
	p, e := ip6.Parse(b)
	m, f := icmp6.Parse(p.Data, sum.Pseudo6(p.From, p.To, 58, len(p.Data)))
	if e != nil || f != nil || len(b) > 1280 || !strings.HasPrefix(s, m.Data) {
		t.Errorf("%s: %v, %v, %s", brief(s), e, f, brief(b))
	}
	q, claim, e := Inside6(m.Data)
	whole, f := ip6.Parse(s)
	if e != nil || f != nil || claim != len(whole.Data) || q.From != whole.From || q.To != whole.To {
		t.Errorf("%s: %v, %v, %s, %d", brief(s), e, f, brief(q), claim)
	}
	if _, ok := Own6(expired6, b, own6, 1280); ok {
		t.Errorf("%s: an error about an error", brief(s))
	}
}
