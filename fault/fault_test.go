package fault

import (
	"errors"
	"fmt"
	"math"
	"math/rand"
	"reflect"
	"slices"
	"strings"
	"testing"

	"interpreter/api"
	"interpreter/class"
	"interpreter/icmp4"
	"interpreter/icmp6"
	"interpreter/icmpmap"
	"interpreter/ip4"
	"interpreter/ip6"
	"interpreter/num"
	"interpreter/sum"
)

// The tests' packets go from the first one to the second one of these.
var (
	from4, to4 = api.V4{192, 0, 2, 33}, api.V4{198, 51, 100, 254}
	from6      = api.V6{0x20, 1, 0xd, 0xb8, 4, 5, 6, 7, 8, 9, 10, 11, 12, 13, 14, 15}
	to6        = api.V6{0x00, 0x64, 0xff, 0x9b, 12: 198, 13: 51, 14: 100, 15: 254}
)

// The gateway's own addresses.
var (
	own4 = api.V4{203, 0, 113, 1}
	own6 = api.V6{0x20, 1, 0xd, 0xb8, 15: 0xfe}
)

// The ends between which the tests' packets are quoted over the other family.
var (
	here6, there6 = api.T6{Addr: from6, Port: 0x1234}, api.T6{Addr: to6, Port: 0xfedc}
	here4, there4 = api.T4{Addr: own4, Port: 0xabcd}, api.T4{Addr: to4, Port: 0x0035}
)

// far are numbers that are nowhere near any bound.
var far = []int{math.MinInt, math.MinInt + 1, -1 << 40, -1 << 32, -1 << 31, -65536, -65535, -256, -255, -2, -1, 1 << 31, 1 << 32, 1<<32 + 1, 1 << 40, math.MaxInt - 1, math.MaxInt}

// brief is how a value is told, without the most of what is long.
func brief(x any) string {
	s := fmt.Sprintf("%#v", x)
	if len(s) > 500 {
		s = fmt.Sprintf("%s .. (%d)", s[:500], len(s))
	}
	return s
}

// isFault asks that an error is a fault of that code at 0.
func isFault(t *testing.T, what any, e error, code api.Errno) {
	t.Helper()
	var f *num.Fault
	if !errors.As(e, &f) || f == nil || *f != (num.Fault{Code: code}) {
		t.Errorf("%s: %v, not fault %d at 0", brief(what), e, code)
	}
}

// bytes4 is an IPv4 packet's bytes.
func bytes4(t *testing.T, p api.Ip4) string {
	t.Helper()
	s, e := ip4.Bytes(p)
	if e != nil {
		t.Fatalf("%s: %v", brief(p), e)
	}
	return s
}

// bytes6 is an IPv6 packet's bytes.
func bytes6(t *testing.T, p api.Ip6) string {
	t.Helper()
	s, e := ip6.Bytes(p)
	if e != nil {
		t.Fatalf("%s: %v", brief(p), e)
	}
	return s
}

// packet4 is an IPv4 packet with that data, every other part of whose head says something.
func packet4(proto int, data string) api.Ip4 {
	return api.Ip4{Tos: 0xa5, Id: 0xba98, Ttl: 63, Proto: proto, DF: true, From: from4, To: to4, Options: "\x07\x04\x04\x00", Data: data}
}

// packet6 is an IPv6 packet with that data, every other part of whose head says something.
func packet6(proto int, data string) api.Ip6 {
	return api.Ip6{Class: 0xa5, Flow: 0x81234, Hop: 64, From: from6, To: to6, Exts: []api.Ext{{Kind: 0, Body: "\x01\x04abcd"}, {Kind: 60, Body: "\x01\x0cabcdefghijkl"}}, Proto: proto, Data: data}
}

// piece6 is that packet as a piece.
func piece6(proto, at int, more bool, data string) api.Ip6 {
	p := packet6(proto, data)
	p.Frag, p.Id, p.At, p.More = true, 0xfedcba98, at, more
	return p
}

// some is so many bytes, of which hardly two near each other are alike.
func some(n int) string {
	b := make([]byte, n)
	for i := range b {
		b[i] = byte(7*i + i>>5 + 1)
	}
	return string(b)
}

// plainWord is the number of a text's two bytes at a place.
func plainWord(s string, at int) int { return int(s[at])<<8 + int(s[at+1]) }

// two is a number's lower 16 bits as bytes.
func two(x int) string { return string([]byte{byte(x >> 8), byte(x)}) }

// one is a number's lower 8 bits as a byte.
func one(x int) string { return string([]byte{byte(x)}) }

// plainSum is a text's sum, as chapter 2 says it.
func plainSum(s string) int {
	if len(s)%2 == 1 {
		s += "\x00"
	}
	n := 0
	for i := 0; i < len(s); i += 2 {
		n += plainWord(s, i)
	}
	for n > 65535 {
		n = n/65536 + n%65536
	}
	return 65535 - n
}

// among says whether a number is one of those.
func among(x int, those ...int) bool { return slices.Contains(those, x) }

// plainOwn4 is what Own4 has to answer, as the chapter says it.
func plainOwn4(m api.Msg, packet string, from api.V4, id, mtu int) (string, bool) {
	p, e := ip4.Parse(packet)
	if !among(m.Kind, 3, 4, 5, 11, 12) || m.Code < 0 || m.Code > 255 || e != nil || p.At != 0 || class.Martian4(p.From) || mtu < 68 || mtu > 65535 {
		return "", false
	}
	if p.Proto == 1 && (len(p.Data) == 0 || among(int(p.Data[0]), 3, 4, 5, 11, 12)) {
		return "", false
	}
	all := plainWord(packet, 2)
	n := all
	for n+8+20 > 576 || n+8+20 > mtu {
		n--
	}
	if n < 4*int(packet[0]%16)+8 && n < all {
		return "", false
	}
	s := "\x45\x00" + two(n+28) + two(id) + "\x00\x00\x40\x01\x00\x00" + string(from[:]) + string(p.From[:])
	x := one(m.Kind) + one(m.Code) + "\x00\x00" + two(int(m.Rest>>16)) + two(int(m.Rest)) + packet[:n]
	return s[:10] + two(plainSum(s)) + s[12:] + x[:2] + two(plainSum(x)) + x[4:], true
}

// plainOwn6 is what Own6 has to answer, as the chapter says it.
func plainOwn6(m api.Msg, packet string, from api.V6, mtu int) (string, bool) {
	p, e := ip6.Parse(packet)
	if m.Kind < 1 || m.Kind > 127 || m.Code < 0 || m.Code > 255 || e != nil || p.Frag && p.At != 0 || class.Martian6(p.From) || mtu < 1280 || mtu > 65575 {
		return "", false
	}
	if m.Kind != 2 && p.To[0] == 255 || p.Proto == 58 && (len(p.Data) == 0 || p.Data[0] < 128) {
		return "", false
	}
	all := 40 + plainWord(packet, 4)
	n := all
	for n+8+40 > 1280 || n+8+40 > mtu {
		n--
	}
	if n < all-len(p.Data)+8 && n < all {
		return "", false
	}
	ends := string(from[:]) + string(p.From[:])
	x := one(m.Kind) + one(m.Code) + "\x00\x00" + two(int(m.Rest>>16)) + two(int(m.Rest)) + packet[:n]
	return "\x60\x00\x00\x00" + two(n+8) + "\x3a\x40" + ends + x[:2] + two(plainSum(ends+"\x00\x00"+two(n+8)+"\x00\x00\x00\x3a"+x)) + x[4:], true
}

// plainInside4 is what Inside4 has to answer, as the chapter says it.
func plainInside4(s string) (p api.Ip4, claim int, code api.Errno) {
	if len(s) < 20 {
		return p, 0, api.ErrShort
	}
	n := int(s[0] % 16)
	if s[0]-byte(n) != 64 || n < 5 {
		return p, 0, api.ErrForm
	}
	if len(s) < 4*n {
		return p, 0, api.ErrShort
	}
	if plainSum(s[:4*n]) != 0 {
		return p, 0, api.ErrSum
	}
	all, w := plainWord(s, 2), plainWord(s, 6)
	if all < 4*n || w >= 32768 || w%8192*8+all > 65535 {
		return p, 0, api.ErrForm
	}
	claim = all - 4*n
	data := s[4*n:]
	for len(data) > claim {
		data = data[:len(data)-1]
	}
	if len(data) < 8 && len(data) < claim {
		return p, 0, api.ErrShort
	}
	return api.Ip4{
		Tos: int(s[1]), Id: plainWord(s, 4), DF: w/16384%2 == 1, More: w/8192%2 == 1, At: w % 8192 * 8, Ttl: int(s[8]), Proto: int(s[9]),
		From: api.V4([]byte(s[12:16])), To: api.V4([]byte(s[16:20])), Options: s[20 : 4*n], Data: data,
	}, claim, api.OK
}

// plainInside6 is what Inside6 has to answer, as the chapters 15 and 4 say it.
func plainInside6(s string) (p api.Ip6, claim int, code api.Errno) {
	none := api.Ip6{}
	if len(s) < 40 {
		return none, 0, api.ErrShort
	}
	if s[0]>>4 != 6 {
		return none, 0, api.ErrForm
	}
	p.Class, p.Flow, p.Hop = plainWord(s, 0)>>4&255, plainWord(s, 0)&15<<16+plainWord(s, 2), int(s[7])
	p.From, p.To = api.V6([]byte(s[8:24])), api.V6([]byte(s[24:40]))
	claim, p.Proto, p.Data = plainWord(s, 4), int(s[6]), s[40:]
	if len(p.Data) > claim {
		p.Data = p.Data[:claim]
	}
	for among(p.Proto, 0, 43, 60) {
		switch {
		case p.Proto == 0 && len(p.Exts) > 0:
			return none, 0, api.ErrForm
		case len(p.Exts) == 8:
			return none, 0, api.ErrLong
		case len(p.Data) < 2 || len(p.Data) < 8+8*int(p.Data[1]):
			return none, 0, api.ErrShort
		}
		n := 8 + 8*int(p.Data[1])
		p.Exts = append(p.Exts, api.Ext{Kind: p.Proto, Body: p.Data[2:n]})
		claim, p.Proto, p.Data = claim-n, int(p.Data[0]), p.Data[n:]
	}
	if p.Proto == 44 {
		if len(p.Data) < 8 {
			return none, 0, api.ErrShort
		}
		w := plainWord(p.Data, 2)
		p.Frag, p.At, p.More, p.Id = true, w/8*8, w%2 == 1, uint32(plainWord(p.Data, 4)<<16+plainWord(p.Data, 6))
		claim, p.Proto, p.Data = claim-8, int(p.Data[0]), p.Data[8:]
	}
	if len(p.Data) < 8 && len(p.Data) < claim {
		return none, 0, api.ErrShort
	}
	return p, claim, api.OK
}

// outside says whether a number is not from 0 to that.
func outside(x, most int) bool { return x < 0 || x > most }

// plainTurned is what the data of the whole or of a first piece are turned to, as the chapter says it: from one family's addresses to the other one's, and with what of ICMP is summed and not sent.
func plainTurned(proto int, data, oldEnds, newEnds, oldHead, newHead string, from, to int, kinds map[byte]byte) string {
	b := []byte(data)
	ports := two(from) + two(to)
	switch {
	case proto == 6 && len(b) >= 4:
		copy(b, ports)
		if len(b) >= 18 {
			copy(b[16:18], two(sum.Update(plainWord(data, 16), oldEnds+data[:4], newEnds+ports)))
		}
	case proto == 17 && len(b) >= 4:
		copy(b, ports)
		if len(b) >= 8 && plainWord(data, 6) != 0 {
			n := sum.Update(plainWord(data, 6), oldEnds+data[:4], newEnds+ports)
			if n == 0 {
				n = 65535
			}
			copy(b[6:8], two(n))
		}
	case (proto == 1 || proto == 58) && len(b) >= 8 && b[1] == 0:
		kind, is := kinds[b[0]]
		if is {
			b[0] = kind
			copy(b[4:6], two(from))
			copy(b[2:4], two(sum.Update(plainWord(data, 2), data[0:2]+data[4:6]+oldHead, string(b[0:2])+string(b[4:6])+newHead)))
		}
	}
	return string(b)
}

// plainQuote6 is what Quote6 has to answer, as the chapter says it.
func plainQuote6(p api.Ip4, claim int, from, to api.T6) (string, api.Errno) {
	if outside(p.Tos, 255) || outside(p.Ttl, 255) || outside(p.Id, 65535) || outside(from.Port, 65535) || outside(to.Port, 65535) || outside(p.At, 65528) || p.At%8 != 0 || claim < len(p.Data) {
		return "", api.ErrRange
	}
	proto := p.Proto
	if among(proto, 0, 2, 43, 44, 58, 60) || outside(proto, 255) {
		return "", api.ErrKind
	}
	if proto == 1 {
		proto = 58
	}
	next, between := proto, ""
	if p.At > 0 || p.More {
		w := p.At
		if p.More {
			w++
		}
		next, between = 44, one(proto)+"\x00"+two(w)+"\x00\x00"+two(p.Id)
	}
	if claim > 65535 || len(between)+claim > 65535 {
		return "", api.ErrLong
	}
	data, ends := p.Data, string(from.Addr[:])+string(to.Addr[:])
	if p.At == 0 {
		data = plainTurned(p.Proto, data, string(p.From[:])+string(p.To[:]), ends, "", ends+"\x00\x00"+two(claim)+"\x00\x00\x00\x3a", from.Port, to.Port, map[byte]byte{8: 128, 0: 129})
	}
	return one(0x60+p.Tos>>4) + one(p.Tos<<4) + "\x00\x00" + two(len(between)+claim) + one(next) + one(p.Ttl) + ends + between + data, api.OK
}

// plainQuote4 is what Quote4 has to answer, as the chapter says it.
func plainQuote4(p api.Ip6, claim int, from, to api.T4) (string, api.Errno) {
	if outside(p.Class, 255) || outside(p.Hop, 255) || outside(from.Port, 65535) || outside(to.Port, 65535) || outside(p.At, 65528) || p.At%8 != 0 || claim < len(p.Data) {
		return "", api.ErrRange
	}
	proto := p.Proto
	if among(proto, 0, 1, 2, 43, 44, 60) || outside(proto, 255) {
		return "", api.ErrKind
	}
	if proto == 58 {
		proto = 1
	}
	if claim > 65535 || p.At+20+claim > 65535 {
		return "", api.ErrLong
	}
	w, id := p.At/8, 0
	if p.More {
		w += 8192
	}
	if p.Frag {
		id = int(p.Id % 65536)
	} else if claim > 1240 {
		w += 16384
	}
	data, ends, old := p.Data, string(from.Addr[:])+string(to.Addr[:]), string(p.From[:])+string(p.To[:])
	if p.At == 0 {
		data = plainTurned(p.Proto, data, old, ends, old+"\x00\x00"+two(claim)+"\x00\x00\x00\x3a", "", from.Port, to.Port, map[byte]byte{128: 8, 129: 0})
	}
	s := "\x45" + one(p.Class) + two(20+claim) + two(id) + two(w) + one(p.Hop) + one(proto) + "\x00\x00" + ends
	return s[:10] + two(plainSum(s)) + s[12:] + data, api.OK
}

// plainCarry6 is what Carry6 has to answer, as the chapter says it.
func plainCarry6(m api.Msg, mtu4, mtu6 int, from, to api.T6) (api.Msg, bool) {
	p, claim, inside := plainInside4(m.Data)
	s, quote := plainQuote6(p, claim, from, to)
	x, ok := icmpmap.To6(m, mtu4, mtu6, 20+len(p.Options)+claim)
	if !icmp4.Failure(m) || inside != api.OK || quote != api.OK || !ok {
		return api.Msg{}, false
	}
	if len(s) > 1232 {
		s = s[:1232]
	}
	return api.Msg{Kind: x.Kind, Code: x.Code, Rest: x.Rest, Data: s}, true
}

// plainCarry4 is what Carry4 has to answer, as the chapter says it.
func plainCarry4(m api.Msg, mtu4, mtu6 int, from, to api.T4) (api.Msg, bool) {
	p, claim, inside := plainInside6(m.Data)
	s, quote := plainQuote4(p, claim, from, to)
	x, ok := icmpmap.To4(m, mtu4, mtu6)
	if !icmp6.Failure(m) || inside != api.OK || quote != api.OK || !ok {
		return api.Msg{}, false
	}
	for 28+len(s) > 576 || 28+len(s) > mtu4 {
		s = s[:len(s)-1]
	}
	return api.Msg{Kind: x.Kind, Code: x.Code, Rest: x.Rest, Data: s}, true
}

// asksOwn4 asks of Own4 what plainOwn4 says, and answers whether there was an error of the gateway's own.
func asksOwn4(t *testing.T, what any, m api.Msg, packet string, from api.V4, id, mtu int) bool {
	t.Helper()
	s, ok := Own4(m, packet, from, id, mtu)
	if want, is := plainOwn4(m, packet, from, id, mtu); s != want || ok != is {
		t.Errorf("%s: %s, %v, not %s, %v", brief(what), brief(s), ok, brief(want), is)
	}
	return ok
}

// asksOwn6 asks of Own6 what plainOwn6 says, and answers whether there was an error of the gateway's own.
func asksOwn6(t *testing.T, what any, m api.Msg, packet string, from api.V6, mtu int) bool {
	t.Helper()
	s, ok := Own6(m, packet, from, mtu)
	if want, is := plainOwn6(m, packet, from, mtu); s != want || ok != is {
		t.Errorf("%s: %s, %v, not %s, %v", brief(what), brief(s), ok, brief(want), is)
	}
	return ok
}

// asksInside4 asks of Inside4 what plainInside4 says, and answers the code.
func asksInside4(t *testing.T, what any, s string) api.Errno {
	t.Helper()
	p, claim, e := Inside4(s)
	want, n, code := plainInside4(s)
	if p != want || claim != n {
		t.Errorf("%s: %s, %d, not %s, %d", brief(what), brief(p), claim, brief(want), n)
	}
	asksCode(t, what, e, code)
	return code
}

// asksInside6 asks of Inside6 what plainInside6 says, and answers the code.
func asksInside6(t *testing.T, what any, s string) api.Errno {
	t.Helper()
	p, claim, e := Inside6(s)
	want, n, code := plainInside6(s)
	if !same6(p, want) || claim != n {
		t.Errorf("%s: %s, %d, not %s, %d", brief(what), brief(p), claim, brief(want), n)
	}
	asksCode(t, what, e, code)
	return code
}

// same6 says whether two packets are the same; a list without elements may be nil or empty (R5).
func same6(p, q api.Ip6) bool {
	exts := slices.Equal(p.Exts, q.Exts)
	p.Exts, q.Exts = nil, nil
	return exts && reflect.DeepEqual(p, q)
}

// asksCode asks that there is no error, or a fault of that code at 0.
func asksCode(t *testing.T, what any, e error, code api.Errno) {
	t.Helper()
	if code != api.OK {
		isFault(t, what, e, code)
	} else if e != nil {
		t.Errorf("%s: %v", brief(what), e)
	}
}

// asksQuote6 asks of Quote6 what plainQuote6 says, and answers the code.
func asksQuote6(t *testing.T, what any, p api.Ip4, claim int, from, to api.T6) api.Errno {
	t.Helper()
	s, e := Quote6(p, claim, from, to)
	want, code := plainQuote6(p, claim, from, to)
	if s != want {
		t.Errorf("%s: %s, not %s", brief(what), brief(s), brief(want))
	}
	asksCode(t, what, e, code)
	return code
}

// asksQuote4 asks of Quote4 what plainQuote4 says, and answers the code.
func asksQuote4(t *testing.T, what any, p api.Ip6, claim int, from, to api.T4) api.Errno {
	t.Helper()
	s, e := Quote4(p, claim, from, to)
	want, code := plainQuote4(p, claim, from, to)
	if s != want {
		t.Errorf("%s: %s, not %s", brief(what), brief(s), brief(want))
	}
	asksCode(t, what, e, code)
	return code
}

// asksCarry6 asks of Carry6 what plainCarry6 says, and answers whether there was a message.
func asksCarry6(t *testing.T, what any, m api.Msg, mtu4, mtu6 int, from, to api.T6) bool {
	t.Helper()
	x, ok := Carry6(m, mtu4, mtu6, from, to)
	if want, is := plainCarry6(m, mtu4, mtu6, from, to); x != want || ok != is {
		t.Errorf("%s: %s, %v, not %s, %v", brief(what), brief(x), ok, brief(want), is)
	}
	return ok
}

// asksCarry4 asks of Carry4 what plainCarry4 says, and answers whether there was a message.
func asksCarry4(t *testing.T, what any, m api.Msg, mtu4, mtu6 int, from, to api.T4) bool {
	t.Helper()
	x, ok := Carry4(m, mtu4, mtu6, from, to)
	if want, is := plainCarry4(m, mtu4, mtu6, from, to); x != want || ok != is {
		t.Errorf("%s: %s, %v, not %s, %v", brief(what), brief(x), ok, brief(want), is)
	}
	return ok
}

// expect asks that an answer is or is not.
func expect(t *testing.T, what any, is, want bool) {
	t.Helper()
	if is != want {
		t.Errorf("%s: %v", brief(what), is)
	}
}

// expectCode asks that a code is that one.
func expectCode(t *testing.T, what any, code, want api.Errno) {
	t.Helper()
	if code != want {
		t.Errorf("%s: code %d, not %d", brief(what), code, want)
	}
}

// withSum4 is an IPv4 packet's bytes with the sum of their head anew.
func withSum4(b []byte) string {
	if len(b) < 12 {
		return string(b)
	}
	copy(b[10:12], "\x00\x00")
	n := min(4*int(b[0]%16), len(b))
	copy(b[10:12], two(plainSum(string(b[:n]))))
	return string(b)
}

// changed4 is an IPv4 packet's bytes with others at a place, and the sum of their head anew.
func changed4(s string, at int, by string) string {
	b := []byte(s)
	copy(b[at:], by)
	return withSum4(b)
}

// changed is a text with others at a place.
func changed(s string, at int, by string) string { return s[:at] + by + s[at+len(by):] }

// chance is where the tests' chance begins.
func chance() *rand.Rand { return rand.New(rand.NewSource(1500)) }

// anyText is a text of at most so many bytes, put together by chance.
func anyText(r *rand.Rand, most int) string {
	b := make([]byte, r.Intn(most+1))
	r.Read(b)
	return string(b)
}

// exts are chains of so many bytes in all, each a multiple of 8, of the fewest extensions.
func exts(n int) (chain []api.Ext) {
	for n > 0 {
		x := min(n, 2048)
		chain = append(chain, api.Ext{Kind: 60, Body: "\x01" + one(x/8) + strings.Repeat("e", x-4)})
		n -= x
	}
	return chain
}
