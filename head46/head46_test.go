package head46

import (
	"errors"
	"math"
	"math/rand"
	"reflect"
	"strings"
	"testing"

	"interpreter/api"
	"interpreter/ip4"
	"interpreter/ip6"
	"interpreter/num"
)

// The addresses between which the tests' packets go over IPv6.
var (
	from = api.V6{0x20, 0x01, 0x0d, 0xb8, 4: 1, 15: 0xfe}
	to   = api.V6{0x00, 0x64, 0xff, 0x9b, 12: 192, 13: 0, 14: 2, 15: 33}
)

// Options that are right, and hold no source route that is not used up; some that are not right; and some with such a route.
var (
	passing = []string{
		"", "\x00", "\x01", "\x01\x01\x01\x01", "\x00\x83\x03\x03", "\x01\x00\x07\x01",
		"\x07\x07\x04\x00\x00\x00\x00\x00", "\x94\x04\x00\x00", "\x44\x05\x83\x03\x03\x00\x00\x00",
		"\x83\x03\x04\x00", "\x89\x03\x04\x00", "\x01\x83\x03\x04", "\x83\x07\x08aaaa\x00", "\x89\x03\xff\x83\x03\x04\x01\x01",
		strings.Repeat("\x01", 40), strings.Repeat("\x01", 41), "\x83\x03\x04",
	}
	broken = []string{
		"\x07", "\x83", "\x89", "\x07\x01", "\x07\x00", "\x07\x05aa", "\x83\x02\x00\x00", "\x89\x02", "\x83\x03", "\x01\x01\x01\x44",
		"\x83\x03\x03\x07", "\x89\x07\x04aaaa\x44\x09", "\x83\x03\x04\x44\x01",
	}
	routed = []string{
		"\x83\x03\x03\x00", "\x89\x03\x03\x00", "\x83\x07\x04\x00\x00\x00\x00\x00", "\x89\x07\x04\x00\x00\x00\x00\x00", "\x89\x0b\x0baaaabbbb\x00",
		"\x01\x83\x03\x00", "\x83\x03\x04\x89\x03\x02\x01\x01", "\x83\x03\x03\x00\x07\x01", "\x94\x04\x00\x00\x83\x03\x01\x00",
	}
)

// kept are protocols that are the same over IPv6, and refused such as are none.
var (
	kept    = []int{3, 4, 6, 17, 41, 42, 45, 47, 50, 51, 57, 59, 61, 132, 254, 255}
	refused = []int{0, 2, 43, 44, 58, 60, 256, 257, 258, 300, 512, 65536 + 6, 1 << 32, 1<<32 + 1, 1<<32 + 6, math.MaxInt, -1, -2, -6, -250, -255, -256, -1 << 32, math.MinInt, math.MinInt + 6}
)

// whole is a packet that is no piece, and of which every other part says something.
func whole() api.Ip4 {
	return api.Ip4{Tos: 0xa5, Id: 0x1234, Ttl: 64, Proto: 6, DF: true, From: api.V4{192, 0, 2, 1}, To: api.V4{198, 51, 100, 7}, Options: "\x94\x04\x00\x00", Data: "sixteen bytes .."}
}

// wholeOver is what the packet whole is over IPv6.
func wholeOver() api.Ip6 {
	return api.Ip6{Class: 0xa5, Hop: 63, From: from, To: to, Proto: 6, Data: "sixteen bytes .."}
}

// becomes asks that a packet's head is made that one.
func becomes(t *testing.T, what any, p api.Ip4, want api.Ip6) {
	t.Helper()
	q, e := Head(p, from, to)
	if e != nil || !same(q, want) {
		t.Errorf("%v: %+v, %v, not %+v", what, q, e, want)
	}
}

// fails asks that of a packet there is a fault of that code at 0, and nothing else.
func fails(t *testing.T, what any, p api.Ip4, code api.Errno) {
	t.Helper()
	q, e := Head(p, from, to)
	var f *num.Fault
	if !errors.As(e, &f) || f == nil || *f != (num.Fault{Code: code}) {
		t.Errorf("%v: %v, not fault %d at 0", what, e, code)
	}
	if !same(q, api.Ip6{}) {
		t.Errorf("%v: %+v beside an error", what, q)
	}
}

// same says whether two packets are, where a list that is empty is as one that is nil.
func same(p, q api.Ip6) bool {
	if len(p.Exts) == 0 && len(q.Exts) == 0 {
		p.Exts, q.Exts = nil, nil
	}
	return reflect.DeepEqual(p, q)
}

// plainProto is what Proto has to answer, and -1 for none, as the chapter says it.
func plainProto(n int) int {
	if n == 1 {
		return 58
	}
	for _, x := range []int{0, 2, 43, 44, 58, 60} {
		if n == x {
			return -1
		}
	}
	if n < 0 || n > 255 {
		return -1
	}
	return n
}

// plainHead is what Head has to answer, as the chapter says it.
func plainHead(p api.Ip4, from, to api.V6) (q api.Ip6, code api.Errno) {
	if p.Ttl < 2 || p.Ttl > 255 || p.Tos < 0 || p.Tos > 255 {
		return q, api.ErrRange
	}
	is, e := ip4.Routed(p.Options)
	if e != nil {
		return q, num.Code(e)
	}
	if is || plainProto(p.Proto) < 0 {
		return q, api.ErrKind
	}
	q.Class, q.Hop, q.From, q.To, q.Proto, q.Data = p.Tos, p.Ttl-1, from, to, plainProto(p.Proto), p.Data
	if p.More {
		q.Frag, q.More, q.Id, q.At = true, true, uint32(p.Id), p.At
	} else if p.At != 0 {
		q.Frag, q.Id, q.At = true, uint32(p.Id), p.At
	}
	return q, api.OK
}

// P12.1: every number from -1 to 256, and ones far beyond.
func TestProto(t *testing.T) {
	numbers := append([]int{}, refused...)
	for n := -300; n <= 600; n++ {
		numbers = append(numbers, n)
	}
	for shift := 8; shift < 64; shift += 4 {
		for n := range 64 {
			numbers = append(numbers, 1<<shift+n, -1<<shift+n)
		}
	}
	for _, n := range numbers {
		want := plainProto(n)
		got, ok := Proto(n)
		if want < 0 && (got != 0 || ok) || want >= 0 && (got != want || !ok) {
			t.Errorf("%d: %d, %v, not %d", n, got, ok, want)
		}
	}
}

// P12.1: by name, those that are another one, none, or the same.
func TestProtoNames(t *testing.T) {
	if n, ok := Proto(api.Icmp); n != api.Icmp6 || !ok {
		t.Errorf("ICMP: %d, %v", n, ok)
	}
	for _, n := range append([]int{api.Tcp, api.Udp}, kept...) {
		if got, ok := Proto(n); got != n || !ok {
			t.Errorf("%d: %d, %v", n, got, ok)
		}
	}
	for _, n := range refused {
		if got, ok := Proto(n); got != 0 || ok {
			t.Errorf("%d: %d, %v", n, got, ok)
		}
	}
}

// P12.2: the chapter's examples.
func TestExamples(t *testing.T) {
	becomes(t, "the first", api.Ip4{Tos: 5, Ttl: 9, Proto: 1, DF: true, Data: "hi"}, api.Ip6{Class: 5, Hop: 8, From: from, To: to, Proto: 58, Data: "hi"})
	becomes(t, "the second", api.Ip4{Ttl: 9, Proto: 17, Id: 7, At: 8, Data: "hi"}, api.Ip6{Hop: 8, From: from, To: to, Frag: true, Id: 7, At: 8, Proto: 17, Data: "hi"})
	fails(t, "the third", api.Ip4{Ttl: 1}, api.ErrRange)
	fails(t, "the fourth", api.Ip4{Ttl: 2, Proto: 44}, api.ErrKind)
	fails(t, "the fifth", api.Ip4{Ttl: 2, Proto: 17, Options: "\x83\x03\x03\x00"}, api.ErrKind)
}

// P12.2, P12.3: every part of a whole packet, and of a piece.
func TestParts(t *testing.T) {
	becomes(t, "whole", whole(), wholeOver())
	p, q := whole(), wholeOver()
	p.At, p.More = 0x1238, true
	q.Frag, q.Id, q.At, q.More = true, 0x1234, 0x1238, true
	becomes(t, "a piece", p, q)
	becomes(t, "of zero values", api.Ip4{Ttl: 2, Proto: 255}, api.Ip6{Hop: 1, From: from, To: to, Proto: 255})
}

// P12.2, P12.3: the time to live at its bounds, and beyond; the hop limit is one less.
func TestTtl(t *testing.T) {
	for n := 2; n <= 255; n++ {
		p, q := whole(), wholeOver()
		p.Ttl, q.Hop = n, n-1
		becomes(t, []any{"Ttl", n}, p, q)
	}
	for _, n := range []int{1, 0, -1, -2, -254, -255, -256, 256, 257, 258, 511, 512, 1 << 16, 1<<32 + 64, math.MaxInt, math.MinInt, math.MinInt + 64} {
		p := whole()
		p.Ttl = n
		fails(t, []any{"Ttl", n}, p, api.ErrRange)
	}
}

// P12.2: Tos at its bounds, and beyond.
func TestTos(t *testing.T) {
	for n := range 256 {
		p, q := whole(), wholeOver()
		p.Tos, q.Class = n, n
		becomes(t, []any{"Tos", n}, p, q)
	}
	for _, n := range []int{-1, -2, -128, -255, -256, 256, 257, 511, 512, 1 << 16, 1<<32 + 5, math.MaxInt, math.MinInt, math.MinInt + 5} {
		p := whole()
		p.Tos = n
		fails(t, []any{"Tos", n}, p, api.ErrRange)
	}
}

// P12.2: of each protocol there is a head just where Proto tells one, in a piece too.
func TestProtocols(t *testing.T) {
	numbers := append([]int{}, refused...)
	for n := -1; n <= 256; n++ {
		numbers = append(numbers, n)
	}
	for _, n := range numbers {
		for _, at := range []int{0, 8} {
			p, q := whole(), wholeOver()
			p.Proto, p.At = n, at
			if q.Proto = plainProto(n); q.Proto < 0 {
				fails(t, []any{"Proto", n, at}, p, api.ErrKind)
				continue
			}
			if at != 0 {
				q.Frag, q.Id, q.At = true, 0x1234, at
			}
			becomes(t, []any{"Proto", n, at}, p, q)
		}
	}
}

// P12.2, P12.3: options that may be leave nothing; what is broken is told as ip4 tells it; a route that is not used up is refused.
func TestOptions(t *testing.T) {
	for _, o := range passing {
		p := whole()
		p.Options = o
		becomes(t, []any{"options", []byte(o)}, p, wholeOver())
	}
	for _, o := range broken {
		p := whole()
		p.Options = o
		fails(t, []any{"options", []byte(o)}, p, api.ErrForm)
		_, want := ip4.Routed(o)
		if _, e := Head(p, from, to); want == nil || e == nil || *num.Only(e) != *num.Only(want) {
			t.Errorf("options %x: %v, not %v", o, e, want)
		}
	}
	for _, o := range routed {
		p := whole()
		p.Options = o
		fails(t, []any{"options", []byte(o)}, p, api.ErrKind)
	}
}

// P12.2 and R2: the range's error comes first, then the options', then the kind's.
func TestWhichError(t *testing.T) {
	var options []string
	options = append(append(append(options, passing...), broken...), routed...)
	seen := map[api.Errno]int{}
	for _, ttl := range []int{-1, 0, 1, 2, 255, 256} {
		for _, tos := range []int{-1, 0, 255, 256} {
			for _, o := range options {
				for _, proto := range []int{-1, 0, 1, 2, 6, 44, 58, 255, 256} {
					p := whole()
					p.Ttl, p.Tos, p.Options, p.Proto = ttl, tos, o, proto
					q, code := plainHead(p, from, to)
					seen[code]++
					if code == api.OK {
						becomes(t, p, p, q)
					} else {
						fails(t, p, p, code)
					}
				}
			}
		}
	}
	for _, c := range []api.Errno{api.OK, api.ErrRange, api.ErrForm, api.ErrKind} {
		if seen[c] < 50 {
			t.Errorf("only %d of code %d", seen[c], c)
		}
	}
	for name, x := range map[string]struct {
		p    api.Ip4
		want api.Errno
	}{
		"range, form, kind":      {api.Ip4{Ttl: 1, Proto: 44, Options: "\x07"}, api.ErrRange},
		"range of Tos and form":  {api.Ip4{Ttl: 9, Tos: 256, Proto: 6, Options: "\x07"}, api.ErrRange},
		"range of Tos and route": {api.Ip4{Ttl: 9, Tos: -1, Proto: 6, Options: "\x83\x03\x03"}, api.ErrRange},
		"range of Ttl and kind":  {api.Ip4{Ttl: 256, Proto: 58}, api.ErrRange},
		"form and kind":          {api.Ip4{Ttl: 9, Proto: 58, Options: "\x07\x01"}, api.ErrForm},
		"form behind a route":    {api.Ip4{Ttl: 9, Proto: 6, Options: "\x83\x03\x03\x07"}, api.ErrForm},
		"route and kind":         {api.Ip4{Ttl: 9, Proto: 2, Options: "\x83\x03\x03"}, api.ErrKind},
	} {
		fails(t, name, x.p, x.want)
	}
}

// P12.2: More alone, At alone, both, none of them, with DF or without; a packet that is whole hands no Id on.
func TestPieces(t *testing.T) {
	for _, at := range []int{0, 8, 16, 1480, 32768, 65504, 65528} {
		for _, more := range []bool{false, true} {
			for _, df := range []bool{false, true} {
				for _, id := range []int{0, 1, 7, 255, 256, 0x8000, 0xabcd, 65535} {
					p, q := whole(), wholeOver()
					p.At, p.More, p.DF, p.Id = at, more, df, id
					if at != 0 || more {
						q.Frag, q.Id, q.At, q.More = true, uint32(id), at, more
					}
					becomes(t, []any{at, more, df, id}, p, q)
				}
			}
		}
	}
}

// P12.2: no bounds are named for At and Id; they are handed on as they are, Id as far as it has room.
func TestPiecesOutOfBounds(t *testing.T) {
	for _, at := range []int{1, 4, 7, 9, 65535, 65536, -1, -8, math.MaxInt, math.MinInt} {
		p, q := whole(), wholeOver()
		p.At = at
		q.Frag, q.Id, q.At = true, 0x1234, at
		becomes(t, []any{"At", at}, p, q)
	}
	for id, want := range map[int]uint32{-1: 1<<32 - 1, 65536: 65536, 1<<32 - 1: 1<<32 - 1, 1<<32 + 7: 7, math.MaxInt: 1<<32 - 1, math.MinInt: 0} {
		p, q := whole(), wholeOver()
		p.Id = id
		becomes(t, []any{"Id of a whole", id}, p, q)
		p.More = true
		q.Frag, q.Id, q.More = true, want, true
		becomes(t, []any{"Id of a piece", id}, p, q)
	}
}

// P12.3: no data, some, many, more than a packet may have: they stay as they were.
func TestData(t *testing.T) {
	chance := rand.New(rand.NewSource(12))
	for _, n := range []int{0, 1, 2, 7, 8, 9, 1240, 1241, 1480, 65495, 65515, 65516, 65535, 65536, 1 << 20} {
		b := make([]byte, n)
		chance.Read(b)
		for _, s := range []string{string(b), strings.Repeat("\x00", n), strings.Repeat("\xff", n)} {
			p, q := whole(), wholeOver()
			p.Data, q.Data = s, s
			if got, e := Head(p, from, to); e != nil || !same(got, q) {
				t.Errorf("%d bytes: other ones, %v", n, e)
			}
			p.More = true
			q.Frag, q.Id, q.More = true, 0x1234, true
			if got, e := Head(p, from, to); e != nil || !same(got, q) {
				t.Errorf("%d bytes of a piece: other ones, %v", n, e)
			}
		}
	}
}

// P12.2, P12.3: the addresses are those that were handed in; the IPv4 ones, DF and options change nothing.
func TestNothingLeft(t *testing.T) {
	chance := rand.New(rand.NewSource(13))
	for range 500 {
		p, q := whole(), wholeOver()
		chance.Read(p.From[:])
		chance.Read(p.To[:])
		p.DF = chance.Intn(2) == 0
		p.Options = passing[chance.Intn(len(passing))]
		chance.Read(q.From[:])
		chance.Read(q.To[:])
		got, e := Head(p, q.From, q.To)
		if e != nil || !same(got, q) {
			t.Fatalf("%+v: %+v, %v, not %+v", p, got, e, q)
		}
	}
	for _, x := range []struct{ from, to api.V6 }{{}, {from: from}, {to: to}, {from, from}} {
		q := wholeOver()
		q.From, q.To = x.from, x.to
		if got, e := Head(whole(), x.from, x.to); e != nil || !same(got, q) {
			t.Errorf("%v: %+v, %v", x, got, e)
		}
	}
}

// somePacket is a packet of chance that has bytes.
func somePacket(chance *rand.Rand) api.Ip4 {
	p := api.Ip4{Tos: chance.Intn(256), Id: chance.Intn(65536), Ttl: chance.Intn(256), Proto: chance.Intn(256), DF: chance.Intn(2) == 0, More: chance.Intn(2) == 0}
	if chance.Intn(2) == 0 {
		p.At = 8 * chance.Intn(8000)
	}
	chance.Read(p.From[:])
	chance.Read(p.To[:])
	l := [][]string{passing, passing, broken, routed}[chance.Intn(4)]
	p.Options = l[chance.Intn(len(l))]
	for len(p.Options)%4 != 0 || len(p.Options) > 40 {
		p.Options = l[chance.Intn(len(l))]
	}
	data := make([]byte, 8*(1+chance.Intn(6)))
	chance.Read(data)
	if !p.More {
		data = data[:chance.Intn(len(data)+1)]
	}
	p.Data = string(data)
	return p
}

// P12.2, P12.3: packets of chance; what an IPv4 packet with bytes is made has bytes too.
func TestChance(t *testing.T) {
	chance := rand.New(rand.NewSource(14))
	seen := map[api.Errno]int{}
	for range 20000 {
		p := somePacket(chance)
		if _, e := ip4.Bytes(p); e != nil {
			t.Fatalf("%+v: %v", p, e)
		}
		want, code := plainHead(p, from, to)
		seen[code]++
		if code != api.OK {
			fails(t, p, p, code)
			continue
		}
		becomes(t, p, p, want)
		q, _ := Head(p, from, to)
		s, e := ip6.Bytes(q)
		if e != nil {
			t.Fatalf("%+v: %+v has no bytes: %v", p, q, e)
		}
		if back, e := ip6.Parse(s); e != nil || !same(back, q) {
			t.Fatalf("%+v: %+v, %v, not %+v", p, back, e, q)
		}
	}
	for _, c := range []api.Errno{api.OK, api.ErrRange, api.ErrForm, api.ErrKind} {
		if seen[c] < 50 {
			t.Errorf("only %d of code %d", seen[c], c)
		}
	}
}

// P12.2: the longest packets over IPv4 have bytes over IPv6.
func TestLongest(t *testing.T) {
	for name, p := range map[string]api.Ip4{
		"whole":         {Ttl: 64, Proto: 17, Data: strings.Repeat("x", 65515)},
		"a first piece": {Ttl: 64, Proto: 17, More: true, Data: strings.Repeat("x", 65512)},
		"a last piece":  {Ttl: 64, Proto: 17, At: 65504, Data: "eleven byte"},
	} {
		if _, e := ip4.Bytes(p); e != nil {
			t.Errorf("%s, over IPv4: %v", name, e)
		}
		q, e := Head(p, from, to)
		if e != nil || q.Data != p.Data {
			t.Errorf("%s: %d bytes, %v", name, len(q.Data), e)
		}
		if _, e := ip6.Bytes(q); e != nil {
			t.Errorf("%s, over IPv6: %v", name, e)
		}
	}
}

// R3, R4: an answer hangs on nothing that an earlier one left, nor on what was done to that.
func TestAnswersAreNew(t *testing.T) {
	for _, p := range []api.Ip4{{Ttl: 1}, {Ttl: 9, Options: "\x07"}, {Ttl: 9, Proto: 44}} {
		_, e := Head(p, from, to)
		code := num.Code(e)
		*num.Only(e) = num.Fault{Code: api.ErrWord, At: 9}
		fails(t, p, p, code)
	}
	q, _ := Head(whole(), from, to)
	q.Exts = append(q.Exts, api.Ext{Kind: 60, Body: "6 byte"})
	becomes(t, "again", whole(), wholeOver())
}

// FuzzHead is P12.2 and P12.3, of whatever packet.
func FuzzHead(f *testing.F) {
	f.Add(5, 9, 1, 0, 0, true, false, "", "hi")
	f.Add(0, 9, 17, 7, 8, false, false, "", "hi")
	f.Add(0, 1, 0, 0, 0, false, false, "", "")
	f.Add(0, 2, 44, 0, 0, false, true, "\x01\x83\x03\x04", "eight by")
	f.Add(0, 2, 17, 0, 0, false, false, "\x83\x03\x03\x00", "")
	f.Add(-1, 256, 256, 1<<40, -8, true, true, "\x07\x01", "")
	f.Fuzz(func(t *testing.T, tos, ttl, proto, id, at int, df, more bool, options, data string) {
		p := api.Ip4{Tos: tos, Id: id, Ttl: ttl, Proto: proto, At: at, DF: df, More: more, From: api.V4{10, 0, 0, 1}, To: api.V4{10, 0, 0, 2}, Options: options, Data: data}
		want, code := plainHead(p, from, to)
		if code != api.OK {
			fails(t, p, p, code)
			return
		}
		becomes(t, p, p, want)
	})
}
