package fault

import (
	"math/rand"
	"strings"
	"testing"

	"interpreter/api"
	"interpreter/icmp4"
	"interpreter/icmp6"
	"interpreter/ip4"
	"interpreter/ip6"
	"interpreter/sum"
	"interpreter/tcp"
	"interpreter/udp"
)

// turnedTo6 is what data of a quoted IPv4 packet are turned to, the whole having so many.
func turnedTo6(t *testing.T, proto int, data string, claim int) string {
	t.Helper()
	p := packet4(proto, data)
	asksQuote6(t, []any{proto, data, claim}, p, claim, here6, there6)
	s, e := Quote6(p, claim, here6, there6)
	if e != nil {
		t.Fatalf("%d, %s: %v", proto, brief(data), e)
	}
	return s[40:]
}

// turnedTo4 is what data of a quoted IPv6 packet are turned to, the whole having so many.
func turnedTo4(t *testing.T, proto int, data string, claim int) string {
	t.Helper()
	p := packet6(proto, data)
	asksQuote4(t, []any{proto, data, claim}, p, claim, here4, there4)
	s, e := Quote4(p, claim, here4, there4)
	if e != nil {
		t.Fatalf("%d, %s: %v", proto, brief(data), e)
	}
	return s[20:]
}

// P15.6: data of 0 to 24 bytes: which of the bytes are turned, and which stay.
func TestTurnedLengths(t *testing.T) {
	for n := range 25 {
		for _, x := range []struct {
			proto, least, sumAt int
			data                string
		}{{6, 4, 16, some(n)}, {17, 4, 6, some(n)}, {47, 99, 99, some(n)}, {50, 99, 99, some(n)}} {
			for _, claim := range []int{n, n + 1, 1000} {
				for i, is := range []string{turnedTo6(t, x.proto, x.data, claim), turnedTo4(t, x.proto, x.data, claim)} {
					want := x.data
					if n >= x.least {
						want = []string{"\x12\x34\xfe\xdc", "\xab\xcd\x00\x35"}[i] + want[4:]
					}
					if n >= x.sumAt+2 {
						if is[x.sumAt:x.sumAt+2] == want[x.sumAt:x.sumAt+2] {
							t.Errorf("%d, %d: the sum is not turned", x.proto, n)
						}
						want = changed(want, x.sumAt, is[x.sumAt:x.sumAt+2])
					}
					if is != want {
						t.Errorf("%d, %d: %q, not %q", x.proto, n, is, want)
					}
				}
			}
		}
	}
}

// P15.6: echoes of 0 to 24 bytes of each Kind, with Codes of 0 and others: which are turned, and what of them.
func TestTurnedEchoes(t *testing.T) {
	for kind := range 256 {
		for _, code := range []int{0, 1, 8, 128, 255} {
			for n := range 25 {
				data := (one(kind) + one(code) + some(30))[:n]
				is := turnedTo6(t, 1, data, n+3)
				turnedLike(t, is, data, code == 0 && n >= 8 && among(kind, 0, 8), map[int]string{8: "\x80\x00", 0: "\x81\x00"}[kind], "\x12\x34")
				is = turnedTo4(t, 58, data, n+3)
				turnedLike(t, is, data, code == 0 && n >= 8 && among(kind, 128, 129), map[int]string{128: "\x08\x00", 129: "\x00\x00"}[kind], "\xab\xcd")
			}
		}
	}
}

// turnedLike asks that an echo has another beginning and identifier, if it is one, and else is as it was.
func turnedLike(t *testing.T, is, data string, echo bool, begins, id string) {
	t.Helper()
	want := data
	if echo {
		want = begins + is[2:4] + id + data[6:]
		if is[2:4] == data[2:4] {
			t.Errorf("%q: the sum is not turned", data)
		}
	}
	if is != want {
		t.Errorf("%q: %q, not %q", data, is, want)
	}
}

// P15.6: every sum of a segment and of a datagram; one of noughts is none of a datagram's, and is never made.
func TestTurnedSums(t *testing.T) {
	for _, proto := range []int{6, 17} {
		at := map[int]int{6: 16, 17: 6}[proto]
		noughts, full := 0, 0
		for n := range 65536 {
			data := changed(some(18), at, two(n))
			there := turnedTo6(t, proto, data, 18)
			back := turnedTo4(t, proto, data, 18)
			for _, is := range []string{there, back} {
				switch s := plainWord(is, at); {
				case proto == 17 && n == 0 && s != 0:
					t.Errorf("a sum of 0 became %d", s)
				case proto == 17 && n != 0 && s == 0:
					t.Errorf("%d became 0", n)
				case s == 0:
					noughts++
				case s == 65535:
					full++
				}
			}
		}
		if proto == 6 && noughts == 0 || proto == 17 && (noughts != 2 || full == 0) {
			t.Errorf("%d: %d, %d", proto, noughts, full)
		}
	}
}

// P15.6: of an echo every sum.
func TestTurnedEchoSums(t *testing.T) {
	for n := range 65536 {
		turnedTo6(t, 1, "\x08\x00"+two(n)+"\xff\x00\x01\x02data", 12)
		turnedTo4(t, 58, "\x80\x00"+two(n)+"\xff\x00\x01\x02data", 12)
	}
}

// P15.6: with an At above 0 no data are turned; with More alone those of the first piece are.
func TestTurnedPieces(t *testing.T) {
	for _, proto := range []int{6, 17} {
		for _, at := range []int{0, 8, 16, 32768, 65504} {
			for _, more := range []bool{false, true} {
				p, q := packet4(proto, some(24)), piece6(proto, at, more, some(24))
				p.At, p.More = at, more
				s, e := Quote6(p, 24, here6, there6)
				asksQuote6(t, []any{proto, at, more}, p, 24, here6, there6)
				if e != nil || strings.HasSuffix(s, some(24)) != (at > 0) {
					t.Errorf("%d, %d, %v: %q, %v", proto, at, more, s, e)
				}
				asksQuote4(t, []any{proto, at, more}, q, 24, here4, there4)
				s, e = Quote4(q, 24, here4, there4)
				if at <= 65491 && (e != nil || strings.HasSuffix(s, some(24)) != (at > 0)) {
					t.Errorf("%d, %d, %v: %q, %v", proto, at, more, s, e)
				}
			}
		}
	}
	p, q := packet4(1, "\x08\x00"+some(14)), piece6(58, 8, true, "\x80\x00"+some(14))
	p.At, p.More = 8, true
	s, e := Quote6(p, 16, here6, there6)
	x, f := Quote4(q, 16, here4, there4)
	if e != nil || f != nil || s[48:] != p.Data || x[20:] != q.Data {
		t.Errorf("%q, %v, %q, %v", s, e, x, f)
	}
	p.At, q.At = 0, 0
	s, e = Quote6(p, 16, here6, there6)
	x, f = Quote4(q, 16, here4, there4)
	if e != nil || f != nil || s[48:50] != "\x80\x00" || s[52:54] != "\x12\x34" || x[20:22] != "\x08\x00" || x[24:26] != "\xab\xcd" {
		t.Errorf("%q, %v, %q, %v", s, e, x, f)
	}
}

// A family's packets: how their data are right by their sums, as the layers 5 to 8 have it.
type family struct {
	icmp   int
	asks   int
	pseudo func(proto, length int) string
	bytes  func(m api.Msg, length int) (string, error)
	parse  func(s string) (api.Msg, error)
}

// four and six are the families between the ends that are handed in.
func four(from, to api.V4) family {
	return family{1, 8, func(proto, length int) string { return sum.Pseudo4(from, to, proto, length) },
		func(m api.Msg, _ int) (string, error) { return icmp4.Bytes(m) }, icmp4.Parse}
}

func six(from, to api.V6) family {
	head := func(proto, length int) string { return sum.Pseudo6(from, to, proto, length) }
	return family{58, 128, head,
		func(m api.Msg, length int) (string, error) { return icmp6.Bytes(m, head(58, length)) },
		func(s string) (api.Msg, error) { return icmp6.Parse(s, head(58, len(s))) }}
}

// wholes are a segment, a datagram, and two echoes, with right sums and the data behind them, and their protocols.
func (f family) wholes(t *testing.T, r *rand.Rand, data string) ([]string, []int) {
	t.Helper()
	raw := some(20) + data
	raw = changed(raw, 12, "\x50")
	segment, e := tcp.Bytes(api.Seg{From: r.Intn(65536), To: r.Intn(65536), Raw: raw}, f.pseudo(6, len(raw)))
	if e != nil {
		t.Fatal(e)
	}
	datagram, e := udp.Bytes(api.Dgram{From: r.Intn(65536), To: r.Intn(65536), Data: data}, f.pseudo(17, 8+len(data)))
	if e != nil {
		t.Fatal(e)
	}
	asks, e := f.bytes(api.Msg{Kind: f.asks, Rest: r.Uint32(), Data: data}, 8+len(data))
	if e != nil {
		t.Fatal(e)
	}
	is, e := f.bytes(api.Msg{Kind: map[int]int{8: 0, 128: 129}[f.asks], Rest: r.Uint32(), Data: data}, 8+len(data))
	if e != nil {
		t.Fatal(e)
	}
	return []string{segment, datagram, asks, is}, []int{6, 17, f.icmp, f.icmp}
}

// right asks that data are right by their sum.
func (f family) right(t *testing.T, what any, proto int, data string) {
	t.Helper()
	var e error
	switch proto {
	case 6:
		e = tcp.Check(data, f.pseudo(6, len(data)))
	case 17:
		e = udp.Check(data, f.pseudo(17, len(data)))
	case f.icmp:
		_, e = f.parse(data)
	}
	if e != nil {
		t.Errorf("%s, %d: %v of %s", brief(what), proto, e, brief(data))
	}
}

// P15.6, P15.7: what was right by its sum stays so, over IPv6 and over IPv4, whatever the addresses and ports.
func TestTurnedStayRight(t *testing.T) {
	r := chance()
	for i := range 4000 {
		data := anyText(r, 60)
		if i%4 == 0 {
			data = strings.Repeat("\xff", r.Intn(9)*2)
		}
		a, b := here4, there4
		x, y := here6, there6
		r.Read(a.Addr[:])
		r.Read(x.Addr[:])
		a.Port, x.Port, b.Port, y.Port = r.Intn(65536), r.Intn(65536), r.Intn(3), r.Intn(65536)
		old, protos := four(from4, to4).wholes(t, r, data)
		for i := range old {
			s, e := Quote6(packet4(protos[i], old[i]), len(old[i]), x, y)
			q, f := ip6.Parse(s)
			if e != nil || f != nil {
				t.Fatalf("%s: %v, %v", brief(old[i]), e, f)
			}
			six(x.Addr, y.Addr).right(t, old[i], q.Proto, q.Data)
		}
		old, protos = six(from6, to6).wholes(t, r, data)
		for i := range old {
			s, e := Quote4(packet6(protos[i], old[i]), len(old[i]), a, b)
			q, f := ip4.Parse(s)
			if e != nil || f != nil {
				t.Fatalf("%s: %v, %v", brief(old[i]), e, f)
			}
			four(a.Addr, b.Addr).right(t, old[i], q.Proto, q.Data)
		}
	}
}

// P15.7: the echo whose bytes over IPv4 are noughts alone: its sum would be 65535, and is 0.
func TestTurnedNoughts(t *testing.T) {
	data, e := icmp6.Bytes(api.Msg{Kind: 129, Rest: 7 << 16, Data: "\x00\x00"}, sum.Pseudo6(from6, to6, 58, 10))
	if e != nil {
		t.Fatal(e)
	}
	s, e := Quote4(packet6(58, data), 10, api.T4{Addr: own4}, there4)
	if e != nil || s[20:] != strings.Repeat("\x00", 10) {
		t.Errorf("%q, %v", s, e)
	}
	s, e = Quote4(packet6(58, data), 10, api.T4{Addr: own4, Port: 1}, there4)
	if e != nil || s[20:] != "\x00\x00\xff\xfe\x00\x01\x00\x00\x00\x00" {
		t.Errorf("%q, %v", s, e)
	}
}

// alike says whether data are the same, but for a sum at a place that may be 0 for 65535.
func alike(data, back string, at int) bool {
	if at+2 <= len(data) && data[at:at+2] == "\xff\xff" && len(back) == len(data) && back[at:at+2] == "\x00\x00" {
		back = changed(back, at, "\xff\xff")
	}
	return data == back
}

// sumPlace is where the sum of a protocol stands.
func sumPlace(proto int) int { return map[int]int{6: 16, 17: 6, 1: 2, 58: 2}[proto] }

// P15.7: over and back, with its own addresses and ports, the data are as they were; but the Kinds 128 and 129 of IPv4 come back as echoes.
func TestTurnedBack(t *testing.T) {
	r := chance()
	for i := range 20000 {
		proto := []int{6, 17, 1, 47}[i%4]
		data := anyText(r, 30)
		if len(data) > 20 && i%3 == 0 {
			data = changed(data, sumPlace(proto), []string{"\xff\xff", "\x00\x00", "\xff\xfe"}[i%9/3])
		}
		if proto == 1 && len(data) > 1 && i%5 > 0 {
			data = one(8*(i%2)) + "\x00" + data[2:]
		}
		own := ports(data, proto)
		p := packet4(proto, data)
		s, e := Quote6(p, len(data)+2, here6, there6)
		q, claim, f := Inside6(s + "..")
		if e != nil || f != nil {
			t.Fatalf("%s: %v, %v", brief(p), e, f)
		}
		q.Data = s[40:]
		s, e = Quote4(q, claim, api.T4{Addr: from4, Port: own[0]}, api.T4{Addr: to4, Port: own[1]})
		known := !(proto == 1 && len(data) >= 8 && among(int(data[0]), 128, 129) && data[1] == 0)
		if e != nil || known && !alike(data, s[20:], sumPlace(proto)) {
			t.Errorf("%d, %q came back as %q, %v", proto, data, s[20:], e)
		}
	}
	for _, kind := range []int{128, 129} {
		data := one(kind) + "\x00\x12\x34\x00\x07echo"
		if s := turnedTo6(t, 1, data, 10); s != data {
			t.Errorf("%q became %q", data, s)
		}
	}
}

// P15.7: the same of IPv6's.
func TestTurnedBack6(t *testing.T) {
	r := chance()
	for i := range 20000 {
		proto := []int{6, 17, 58, 47}[i%4]
		data := anyText(r, 30)
		if len(data) > 20 && i%3 == 0 {
			data = changed(data, sumPlace(proto), []string{"\xff\xff", "\x00\x00", "\xff\xfe"}[i%9/3])
		}
		if proto == 58 && len(data) > 1 && i%5 > 0 {
			data = one(128+i%2) + "\x00" + data[2:]
		}
		own := ports(data, proto)
		s, e := Quote4(packet6(proto, data), len(data)+2, here4, there4)
		q, claim, f := Inside4(s + "..")
		if e != nil || f != nil {
			t.Fatalf("%d, %q: %v, %v", proto, data, e, f)
		}
		q.Data = s[20:]
		s, e = Quote6(q, claim, api.T6{Addr: from6, Port: own[0]}, api.T6{Addr: to6, Port: own[1]})
		known := !(proto == 58 && len(data) >= 8 && among(int(data[0]), 0, 8) && data[1] == 0)
		if e != nil || known && !alike(data, s[40:], sumPlace(proto)) {
			t.Errorf("%d, %q came back as %q, %v", proto, data, s[40:], e)
		}
	}
}

// ports are the ports that data have, or an echo's identifier.
func ports(data string, proto int) (own [2]int) {
	switch {
	case among(proto, 6, 17) && len(data) >= 4:
		own = [2]int{plainWord(data, 0), plainWord(data, 2)}
	case among(proto, 1, 58) && len(data) >= 6:
		own[0] = plainWord(data, 4)
	}
	return own
}

// P15.7: a beginning quoted is a beginning of what the whole is quoted as, over both families, unless it cuts a segment's sum in two.
func TestBeginnings(t *testing.T) {
	r := chance()
	for i := range 3000 {
		data := anyText(r, 60)
		if len(data) >= 2 && i%2 == 0 {
			data = one([]int{0, 8, 128, 129, 3}[i%5]) + "\x00" + data[2:]
		}
		proto := []int{6, 17, 1, 47}[i%4]
		p := packet4(proto, data)
		p.More, p.At = i%5 == 0 && len(data) > 0 && len(data)%8 == 0, i%3/2*16
		begins4(t, bytes4(t, p))
		q := packet6(map[int]int{6: 6, 17: 17, 1: 58, 47: 47}[proto], data)
		q.Frag, q.At, q.More = p.At > 0 || p.More, p.At, p.More
		begins6(t, bytes6(t, q))
	}
}

// begins4 asks that every beginning of an IPv4 packet that has 8 bytes of data is quoted as a beginning of what the packet is.
func begins4(t *testing.T, s string) {
	t.Helper()
	p, claim, e := Inside4(s)
	whole, f := Quote6(p, claim, here6, there6)
	if e != nil || f != nil {
		t.Fatalf("%s: %v, %v", brief(s), e, f)
	}
	for n := len(s) - len(p.Data) + 8; n <= len(s); n++ {
		q, claim, e := Inside4(s[:n])
		x, f := Quote6(q, claim, here6, there6)
		halved := q.Proto == 6 && q.At == 0 && len(q.Data) == 17
		if e != nil || f != nil || len(x) != len(whole)-len(s)+n || !halved && !strings.HasPrefix(whole, x) {
			t.Errorf("%q, %d: %q, %v, %v, no beginning of %q", s, n, x, e, f, whole)
		}
	}
}

// begins6 asks the same of an IPv6 packet.
func begins6(t *testing.T, s string) {
	t.Helper()
	p, claim, e := Inside6(s)
	whole, f := Quote4(p, claim, here4, there4)
	if e != nil || f != nil {
		t.Fatalf("%s: %v, %v", brief(s), e, f)
	}
	for n := len(s) - len(p.Data) + 8; n <= len(s); n++ {
		q, claim, e := Inside6(s[:n])
		x, f := Quote4(q, claim, here4, there4)
		halved := q.Proto == 6 && q.At == 0 && len(q.Data) == 17
		if e != nil || f != nil || len(x) != len(whole)-len(s)+n || !halved && !strings.HasPrefix(whole, x) {
			t.Errorf("%q, %d: %q, %v, %v, no beginning of %q", s, n, x, e, f, whole)
		}
	}
}
