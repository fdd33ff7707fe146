package fault

import (
	"strings"
	"testing"

	"interpreter/api"
	"interpreter/icmpmap"
)

// P15.8: errors whose quotes are carried over with them, each part of the answer.
func TestCarryExamples(t *testing.T) {
	p := packet4(17, "\x03\xe8\x00\x35\x00\x64\x12\x34")
	m, ok := Carry6(api.Msg{Kind: 3, Code: 4, Rest: 1400, Data: bytes4(t, p) + "behind"}, 1500, 1500, here6, there6)
	quote, e := Quote6(p, 8, here6, there6)
	if !ok || e != nil || m != (api.Msg{Kind: 2, Rest: 1420, Data: quote}) {
		t.Errorf("%s, %v, %v", brief(m), ok, e)
	}
	q := packet6(17, "\x03\xe8\x00\x35\x00\x64\x12\x34")
	m, ok = Carry4(api.Msg{Kind: 1, Code: 4, Rest: 7, Data: bytes6(t, q) + "behind"}, 1500, 1500, here4, there4)
	quote, e = Quote4(q, 8, here4, there4)
	if !ok || e != nil || m != (api.Msg{Kind: 3, Code: 3, Data: quote}) {
		t.Errorf("%s, %v, %v", brief(m), ok, e)
	}
}

// P15.8: of every Kind and Code: only errors are carried over, and only what the other family can say.
func TestCarryMessages(t *testing.T) {
	s4, s6 := bytes4(t, packet4(17, some(40))), bytes6(t, packet6(17, some(40)))
	carried4, carried6 := 0, 0
	for kind := -2; kind < 258; kind++ {
		for code := -2; code < 258; code++ {
			for _, rest := range []uint32{0, 7, 8 << 24, 1400} {
				m := api.Msg{Kind: kind, Code: code, Rest: rest, Data: s4}
				_, said := icmpmap.To6(m, 1500, 1500, 64)
				ok := asksCarry6(t, m, m, 1500, 1500, here6, there6)
				expect(t, m, ok, said && among(kind, 3, 11, 12))
				if ok {
					carried6++
				}
				m.Data = s6
				_, said = icmpmap.To4(m, 1500, 1500)
				ok = asksCarry4(t, m, m, 1500, 1500, here4, there4)
				expect(t, m, ok, said && among(kind, 1, 2, 3, 4))
				if ok {
					carried4++
				}
			}
		}
	}
	if carried6 != 4*15+4*2+4*2 || carried4 != 4*5+4+4*2+2+4 {
		t.Error(carried6, carried4)
	}
	for _, kind := range []int{0, 8, 128, 129} {
		expect(t, kind, asksCarry6(t, kind, api.Msg{Kind: kind, Data: s4}, 1500, 1500, here6, there6), false)
		expect(t, kind, asksCarry4(t, kind, api.Msg{Kind: kind, Data: s6}, 1500, 1500, here4, there4), false)
	}
}

// P15.8: Data that are no quoted packet, and such as are one that is not quoted over the other family.
func TestCarryRefuses(t *testing.T) {
	lost4, lost6 := api.Msg{Kind: 11}, api.Msg{Kind: 3}
	s := bytes4(t, packet4(17, some(40)))
	for n := range s {
		lost4.Data = s[:n]
		expect(t, n, asksCarry6(t, n, lost4, 1500, 1500, here6, there6), n >= 24+8)
	}
	x := bytes6(t, packet6(17, some(40)))
	for n := range x {
		lost6.Data = x[:n]
		expect(t, n, asksCarry4(t, n, lost6, 1500, 1500, here4, there4), n >= 40+24+8)
	}
	lost4.Data, lost6.Data = changed(s, 8, "\x00"), x[:6]+"\x2b"+x[7:]
	expect(t, "a wrong sum", asksCarry6(t, "a wrong sum", lost4, 1500, 1500, here6, there6), false)
	expect(t, "a wrong chain", asksCarry4(t, "a wrong chain", lost6, 1500, 1500, here4, there4), true)
	for proto := range 256 {
		lost4.Data, lost6.Data = changed4(s, 9, one(proto)), changed(x, 40+8, one(proto))
		expect(t, proto, asksCarry6(t, proto, lost4, 1500, 1500, here6, there6), !among(proto, 0, 2, 43, 44, 58, 60))
		asksCarry4(t, proto, lost6, 1500, 1500, here4, there4)
	}
	lost4.Data, lost6.Data = s, x
	for _, port := range append([]int{0, 1, 65534, 65535, 65536}, far...) {
		inside := port >= 0 && port <= 65535
		expect(t, port, asksCarry6(t, port, lost4, 1500, 1500, api.T6{Port: port}, there6), inside)
		expect(t, port, asksCarry6(t, port, lost4, 1500, 1500, here6, api.T6{Port: port}), inside)
		expect(t, port, asksCarry4(t, port, lost6, 1500, 1500, api.T4{Port: port}, there4), inside)
		expect(t, port, asksCarry4(t, port, lost6, 1500, 1500, here4, api.T4{Port: port}), inside)
	}
	for claim, ok := range map[int]bool{65514: true, 65515: true, 65516: false, 65535: false} {
		q := changed(bytes6(t, api.Ip6{Hop: 1, Proto: 17, From: from6, To: to6, Data: some(60)}), 4, two(claim))
		expect(t, claim, asksCarry4(t, claim, api.Msg{Kind: 1, Data: q}, 1500, 1500, here4, there4), ok)
	}
}

// P15.8: quotes that are longer than they may be, just so long, and one less.
func TestCarryLengths(t *testing.T) {
	for _, claim := range []int{0, 8, 100, 1191, 1192, 1193, 1212, 1300, 1452, 2000} {
		for _, there := range []int{8, 50, 1190, 1191, 1192, 1193, 1194, 1300, 2000} {
			if there > claim {
				continue
			}
			s := bytes4(t, packet4(47, some(claim)))[:24+there]
			for _, mtu6 := range []int{1280, 1281, 1500, 65575} {
				m, ok := Carry6(api.Msg{Kind: 3, Data: s}, 68, mtu6, here6, there6)
				if !ok || len(m.Data) != min(40+there, 1232) || !strings.HasPrefix(m.Data[40:]+some(2000)[len(m.Data)-40:], some(there)) {
					t.Errorf("%d, %d: %v, %d bytes", claim, there, ok, len(m.Data))
				}
				asksCarry6(t, []int{claim, there}, api.Msg{Kind: 3, Data: s}, 68, mtu6, here6, there6)
			}
		}
	}
	for _, there := range []int{8, 19, 20, 21, 22, 100, 527, 528, 529, 530, 600} {
		s := bytes6(t, packet6(47, some(there)))
		for _, mtu4 := range []int{68, 69, 70, 100, 575, 576, 577, 578, 1500, 65535} {
			m, ok := Carry4(api.Msg{Kind: 1, Data: s}, mtu4, 1280, here4, there4)
			if !ok || len(m.Data) != min(20+there, min(mtu4, 576)-28) {
				t.Errorf("%d, %d: %v, %d bytes", there, mtu4, ok, len(m.Data))
			}
			asksCarry4(t, []int{there, mtu4}, api.Msg{Kind: 1, Data: s}, mtu4, 1280, here4, there4)
		}
	}
}

// P15.8: MTUs at their bounds, one beyond, and far beyond, also of errors that tell none.
func TestCarryMtus(t *testing.T) {
	s, x := bytes4(t, packet4(17, some(100))), bytes6(t, packet6(17, some(100)))
	for _, mtu4 := range append([]int{0, 27, 28, 66, 67, 68, 69, 1500, 65534, 65535, 65536}, far...) {
		for _, mtu6 := range append([]int{0, 68, 1278, 1279, 1280, 1281, 1500, 65535, 65574, 65575, 65576}, far...) {
			inside := mtu4 >= 68 && mtu4 <= 65535 && mtu6 >= 1280 && mtu6 <= 65575
			for _, m := range []api.Msg{{Kind: 3, Data: s}, {Kind: 3, Code: 4, Rest: 3000, Data: s}, {Kind: 3, Code: 4, Rest: 60000, Data: s}, {Kind: 11, Data: s}, {Kind: 12, Data: s}} {
				expect(t, []int{mtu4, mtu6}, asksCarry6(t, []int{mtu4, mtu6}, m, mtu4, mtu6, here6, there6), inside)
			}
			for _, m := range []api.Msg{{Kind: 1, Data: x}, {Kind: 2, Rest: 3000, Data: x}, {Kind: 2, Rest: 1 << 31, Data: x}, {Kind: 3, Data: x}, {Kind: 4, Data: x}} {
				expect(t, []int{mtu4, mtu6}, asksCarry4(t, []int{mtu4, mtu6}, m, mtu4, mtu6, here4, there4), inside)
			}
		}
	}
}

// P15.8: an MTU that is not told is guessed by all that the quoted packet had, its options and what is not there too.
func TestCarryGuesses(t *testing.T) {
	for _, options := range []int{0, 4, 40} {
		for _, all := range []int{1006, 1007, 1492, 1493, 1500, 2002, 2003, 4352, 4353, 8166, 8167, 17914, 17915, 32000, 32001, 65535} {
			p := packet4(17, some(60))
			p.Options = some(options)
			s := changed4(bytes4(t, p), 2, two(all))
			m, ok := Carry6(api.Msg{Kind: 3, Code: 4, Data: s}, 65535, 65575, here6, there6)
			want := max(icmpmap.Plateau(all)+20, 1280)
			if !ok || m.Kind != 2 || int(m.Rest) != want {
				t.Errorf("%d with options of %d: %d, %v, not %d", all, options, m.Rest, ok, want)
			}
			asksCarry6(t, all, api.Msg{Kind: 3, Code: 4, Data: s}, 65535, 65575, here6, there6)
		}
	}
}

// P15.7, P15.8: an error that is carried over, and back, quotes what it quoted.
func TestCarryBack(t *testing.T) {
	r := chance()
	for i := range 3000 {
		data := anyText(r, 400)
		if len(data) < 20 || i%4 == 3 {
			data = "\x08\x00" + data
		}
		p := api.Ip4{Tos: r.Intn(256), Ttl: r.Intn(256), Proto: []int{6, 17, 47, 1}[i%4], From: from4, To: to4, Data: data}
		m := api.Msg{Kind: 3, Code: 3, Data: bytes4(t, p)}
		over, ok := Carry6(m, 1500, 1500, here6, there6)
		if !ok || over.Kind != 1 || over.Code != 4 {
			t.Fatalf("%s: %s, %v", brief(p), brief(over), ok)
		}
		own := ports(data, p.Proto)
		back, ok := Carry4(over, 1500, 1500, api.T4{Addr: from4, Port: own[0]}, api.T4{Addr: to4, Port: own[1]})
		q, claim, e := Inside4(back.Data)
		same := alike(data, q.Data, max(sumPlace(p.Proto), 2))
		q.Data = data
		if !ok || e != nil || back.Kind != 3 || back.Code != 3 || claim != len(data) || !same || q != p {
			t.Errorf("%s: %s, %v, %d, %v", brief(p), brief(back), ok, claim, e)
		}
	}
}

// R3: what was answered is answered again, whatever was asked between.
func TestAgain(t *testing.T) {
	s, x := bytes4(t, packet4(17, some(100))), bytes6(t, packet6(17, some(100)))
	ask := func() []any {
		a, ok := Own4(expired4, s, own4, 1, 576)
		b, is := Own6(expired6, x, own6, 1280)
		c, has := Carry6(api.Msg{Kind: 3, Data: s}, 1500, 1500, here6, there6)
		d, can := Carry4(api.Msg{Kind: 1, Data: x}, 1500, 1500, here4, there4)
		return []any{a, ok, b, is, c, has, d, can}
	}
	first := ask()
	Own4(expired4, "", own4, 9, 0)
	Inside6(x[:50])
	Quote4(packet6(0, "x"), 0, here4, there4)
	for i, y := range ask() {
		if y != first[i] {
			t.Errorf("%d: %s, not %s", i, brief(y), brief(first[i]))
		}
	}
}

// P15.1 to P15.8: packets, messages and texts put together by chance.
func TestOfWhatever(t *testing.T) {
	r := chance()
	for range 60000 {
		text := anyText(r, 120)
		if len(text) > 41 {
			text = changed(text, 0, one([]int{0x45, 0x46, 0x4f, 0x60, 0x6a}[r.Intn(5)]))
			text = changed(text, 2, two(r.Intn(200)))
			text = changed(text, 4, two(r.Intn(200))+one([]int{0, 6, 17, 43, 44, 58, 60}[r.Intn(7)]))
			text = changed(text, 9, one(carried(r.Intn(4))))
			text = changed(text, 40, one([]int{0, 6, 17, 43, 44, 58, 60, 128}[r.Intn(8)])+one(r.Intn(3)*r.Intn(2)))
			if r.Intn(4) > 0 {
				text = changed(text, 6, one(int(text[6])*r.Intn(2)))
				text = withSum4([]byte(text))
			}
		}
		kind, code := r.Intn(16)-1, r.Intn(20)-1
		whatever(t, text, kind, code, []int{0, 9 << 24, 1400, 6}[r.Intn(4)], r.Intn(1600), 1200+r.Intn(1000), r.Intn(66000), r.Intn(66000))
	}
}

// whatever asks of a text and numbers all that the plain calls say.
func whatever(t *testing.T, text string, kind, code, rest, mtu4, mtu6, from, to int) {
	t.Helper()
	m := api.Msg{Kind: kind, Code: code, Rest: uint32(rest), Data: text}
	a, b := api.T6{Addr: own6, Port: from}, api.T6{Addr: to6, Port: to}
	c, d := api.T4{Addr: own4, Port: from}, api.T4{Addr: to4, Port: to}
	asksOwn4(t, text, m, text, own4, rest, mtu4)
	asksOwn6(t, text, m, text, own6, mtu6)
	asksCarry6(t, text, m, mtu4, mtu6, a, b)
	asksCarry4(t, text, m, mtu4, mtu6, c, d)
	if asksInside4(t, text, text) == api.OK {
		p, claim, _ := Inside4(text)
		asksQuote6(t, text, p, claim, a, b)
		asksQuote6(t, text, p, mtu6, a, b)
	}
	if asksInside6(t, text, text) == api.OK {
		p, claim, _ := Inside6(text)
		asksQuote4(t, text, p, claim, c, d)
		asksQuote4(t, text, p, mtu4, c, d)
	}
	p := api.Ip4{Tos: kind, Ttl: code, Proto: to, Id: rest, At: from, From: from4, To: to4, Data: text}
	asksQuote6(t, text, p, mtu4, a, b)
	asksQuote6(t, text, api.Ip4{Proto: kind, Data: text}, mtu6, b, a)
	q := api.Ip6{Class: kind, Hop: code, Proto: to, Id: uint32(rest), At: from, From: from6, To: to6, Data: text}
	asksQuote4(t, text, q, mtu4, c, d)
	asksQuote4(t, text, api.Ip6{Proto: kind, Data: text}, mtu6, d, c)
}

// P15.1 to P15.8: texts and numbers that nobody thought of.
func FuzzQuotes(f *testing.F) {
	for _, s := range []string{
		"", "\x45", "\x45\x00\x00\x1c\x00\x00\x00\x00\x01\x11\xa5\xcf\x0a\x00\x00\x01\x0a\x00\x00\x02\x03\xe8\x00\x35\x00\x08\x12\x34",
		"\x60\x00\x00\x00\x00\x08\x11\x01" + string(from6[:]) + string(to6[:]) + "\x03\xe8\x00\x35\x00\x08\x12\x34",
		"\x60\x00\x00\x00\x00\x18\x2c\x01" + string(from6[:]) + string(to6[:]) + "\x3a\x00\x00\x01\x00\x00\x00\x07\x80\x00\x12\x34\x00\x07\x00\x00datadata",
	} {
		f.Add(s, 3, 4, 1400, 1500, 1500, 1000, 53)
		f.Add(s, 1, 4, 0, 68, 1280, 0, 65535)
	}
	f.Fuzz(func(t *testing.T, text string, kind, code, rest, mtu4, mtu6, from, to int) {
		whatever(t, text, kind, code, rest, mtu4, mtu6, from, to)
		whatever(t, withSum4([]byte(text)), kind, code, rest, mtu4, mtu6, from, to)
	})
}
