package head64

import (
	"errors"
	"fmt"
	"math"
	"math/rand"
	"reflect"
	"slices"
	"strings"
	"testing"

	"interpreter/api"
	"interpreter/head46"
	"interpreter/ip4"
	"interpreter/ip6"
	"interpreter/num"
)

// The addresses between which the tests' packets go over IPv4, and the gateway's own Id.
var (
	from = api.V4{192, 0, 2, 33}
	to   = api.V4{198, 51, 100, 254}
)

const own = 0x4321

// Extensions without a route that is not used up, and some with one.
var (
	passing = [][]api.Ext{
		nil, {}, {{Kind: 0, Body: "hopbyh"}}, {{Kind: 60, Body: "\x01\xff\x00\x00\x00\x00"}},
		{{Kind: 43, Body: "\x00\x00abcd"}}, {{Kind: 43, Body: "\xff\x00abcd"}}, {{Kind: 43, Body: "\x04\x00abcdefghijkl"}},
		{{Kind: 0, Body: "\x01\x01abcd"}, {Kind: 43, Body: "\x02\x00abcd"}, {Kind: 60, Body: "\x01\x02abcd"}},
		{{Kind: 43, Body: "\x02\x00abcd"}, {Kind: 43, Body: "\x03\x00abcd"}},
		slices.Repeat([]api.Ext{{Kind: 60, Body: "\x01\x02abcd"}}, 8),
	}
	routed = [][]api.Ext{
		{{Kind: 43, Body: "\x00\x01abcd"}}, {{Kind: 43, Body: "\x02\xffabcd"}}, {{Kind: 43, Body: "\x04\x02abcdefghijkl"}},
		{{Kind: 0, Body: "\x01\x00abcd"}, {Kind: 43, Body: "\x02\x01abcd"}}, {{Kind: 43, Body: "\x02\x00abcd"}, {Kind: 43, Body: "\x03\x80abcd"}},
		{{Kind: 43, Body: "\x02\x03abcd"}, {Kind: 43, Body: "\x03\x00abcd"}}, {{Kind: 60, Body: "\x00\x00abcd"}, {Kind: 43, Body: "\x00\x01abcd"}, {Kind: 60, Body: "\x00\x00abcd"}},
	}
	odd = [][]api.Ext{
		{{Kind: 43}}, {{Kind: 43, Body: "\x01"}}, {{Kind: 44, Body: "\x01\x01abcd"}}, {{Kind: -1, Body: "\x01\x01"}}, {{Kind: 6, Body: "x"}, {Kind: 299}},
		slices.Repeat([]api.Ext{{Kind: 0, Body: "abcdef"}}, 20),
	}
)

// kept are protocols that are the same over IPv4, and refused such as are none.
var (
	kept    = []int{3, 4, 6, 17, 41, 42, 45, 47, 50, 51, 57, 59, 61, 132, 254, 255}
	refused = []int{0, 1, 2, 43, 44, 60, 256, 257, 258, 300, 314, 512, 65536 + 6, 1 << 32, 1<<32 + 6, 1<<32 + 58, math.MaxInt, -1, -2, -6, -58, -198, -255, -256, -1 << 32, math.MinInt, math.MinInt + 6}
)

// head is a packet with that Data, of which every other part of the head says something, and extensions too.
func head(data string) api.Ip6 {
	return api.Ip6{
		Class: 0xa5, Flow: 0x81234, Hop: 64,
		From: api.V6{0x20, 1, 0xd, 0xb8, 4, 5, 6, 7, 8, 9, 10, 11, 12, 13, 14, 15},
		To:   api.V6{0x00, 0x64, 0xff, 0x9b, 12: 198, 13: 51, 14: 100, 15: 7},
		Exts: []api.Ext{{Kind: 0, Body: "\x01\x04abcd"}, {Kind: 43, Body: "\x02\x00abcd"}, {Kind: 60, Body: "\x01\x04abcd"}}, Proto: 6, Data: data,
	}
}

// Of the tests' packets one is small, one not, and one a piece; each has what it is over IPv4 beside it.
func small() (api.Ip6, api.Ip4) {
	return head("sixteen bytes .."), api.Ip4{Tos: 0xa5, Id: own, Ttl: 63, Proto: 6, From: from, To: to, Data: "sixteen bytes .."}
}

func long() (api.Ip6, api.Ip4) {
	data := strings.Repeat("long", 400)
	return head(data), api.Ip4{Tos: 0xa5, Ttl: 63, Proto: 6, DF: true, From: from, To: to, Data: data}
}

func piece() (api.Ip6, api.Ip4) {
	p := head("sixteen bytes ..")
	p.Frag, p.Id, p.At, p.More = true, 0xfedcba98, 0x1238, true
	return p, api.Ip4{Tos: 0xa5, Id: 0xba98, Ttl: 63, Proto: 6, At: 0x1238, More: true, From: from, To: to, Data: "sixteen bytes .."}
}

// kinds are the three of them.
var kinds = map[string]func() (api.Ip6, api.Ip4){"small": small, "long": long, "a piece": piece}

// brief is how a value is told, without the most of what is long.
func brief(x any) string {
	s := fmt.Sprintf("%+v", x)
	if len(s) > 400 {
		s = fmt.Sprintf("%q .. (%d)", s[:400], len(s))
	}
	return s
}

// becomes asks that a packet's head is made that one.
func becomes(t *testing.T, what any, p api.Ip6, id int, want api.Ip4) {
	t.Helper()
	if q, e := Head(p, from, to, id); e != nil || q != want {
		t.Errorf("%s: %s, %v, not %s", brief(what), brief(q), e, brief(want))
	}
}

// fails asks that of a packet there is a fault of that code at 0, and nothing else.
func fails(t *testing.T, what any, p api.Ip6, id int, code api.Errno) {
	t.Helper()
	q, e := Head(p, from, to, id)
	var f *num.Fault
	if !errors.As(e, &f) || f == nil || *f != (num.Fault{Code: code}) {
		t.Errorf("%s: %v, not fault %d at 0", brief(what), e, code)
	}
	if q != (api.Ip4{}) {
		t.Errorf("%s: %s beside an error", brief(what), brief(q))
	}
}

// asked asks of a packet what plainHead says.
func asked(t *testing.T, what any, p api.Ip6, id int) api.Errno {
	t.Helper()
	q, code := plainHead(p, from, to, id)
	if code == api.OK {
		becomes(t, what, p, id, q)
	} else {
		fails(t, what, p, id, code)
	}
	if Wants(p) != plainWants(p) {
		t.Errorf("%s: wants %v", brief(what), Wants(p))
	}
	return code
}

// plainProto is what Proto has to answer, and -1 for none, as the chapter says it.
func plainProto(n int) int {
	if n == 58 {
		return 1
	}
	for _, x := range []int{0, 1, 2, 43, 44, 60} {
		if n == x {
			return -1
		}
	}
	if n < 0 || n > 255 {
		return -1
	}
	return n
}

// plainWants is what Wants has to answer, as the chapter says it.
func plainWants(p api.Ip6) bool { return p.Frag == false && 20+len(p.Data) <= 1260 }

// plainHead is what Head has to answer, as the chapter says it.
func plainHead(p api.Ip6, from, to api.V4, id int) (q api.Ip4, code api.Errno) {
	if p.Hop < 2 || p.Hop > 255 || p.Class < 0 || p.Class > 255 || id < 0 || id > 65535 {
		return q, api.ErrRange
	}
	for _, x := range p.Exts {
		if x.Kind == 43 && len(x.Body) >= 2 && x.Body[1] > 0 {
			return q, api.ErrKind
		}
	}
	if plainProto(p.Proto) < 0 {
		return q, api.ErrKind
	}
	if float64(20)+float64(p.At)+float64(len(p.Data)) > 65535 {
		return q, api.ErrLong
	}
	q.Tos, q.Ttl, q.From, q.To, q.Proto, q.Data = p.Class, p.Hop-1, from, to, plainProto(p.Proto), p.Data
	if p.Frag {
		q.Id, q.At, q.More = int(p.Id%65536), p.At, p.More
	} else if plainWants(p) {
		q.Id = id
	} else {
		q.DF = true
	}
	return q, api.OK
}

// P13.1: every number from -1 to 256, and ones far beyond.
func TestProto(t *testing.T) {
	numbers := append([]int{}, refused...)
	for n := -300; n <= 600; n++ {
		numbers = append(numbers, n)
	}
	for shift := 8; shift < 64; shift += 4 {
		for n := range 64 {
			numbers = append(numbers, 1<<shift+n, -1<<shift+n)
		}
	}
	for _, n := range numbers {
		want := plainProto(n)
		got, ok := Proto(n)
		if want < 0 && (got != 0 || ok) || want >= 0 && (got != want || !ok) {
			t.Errorf("%d: %d, %v, not %d", n, got, ok, want)
		}
	}
}

// P13.1: by name, those that are another one, none, or the same.
func TestProtoNames(t *testing.T) {
	if n, ok := Proto(api.Icmp6); n != api.Icmp || !ok {
		t.Errorf("ICMP: %d, %v", n, ok)
	}
	for _, n := range append([]int{api.Tcp, api.Udp}, kept...) {
		if got, ok := Proto(n); got != n || !ok {
			t.Errorf("%d: %d, %v", n, got, ok)
		}
	}
	for _, n := range append([]int{api.Icmp}, refused...) {
		if got, ok := Proto(n); got != 0 || ok {
			t.Errorf("%d: %d, %v", n, got, ok)
		}
	}
}

// P13.1, P13.3: what goes over the one way comes back the other one as it was; what IPv6 alone has is none.
func TestProtoBack(t *testing.T) {
	for n := -10; n <= 300; n++ {
		if x, ok := Proto(n); ok {
			if back, ok := head46.Proto(x); back != n || !ok {
				t.Errorf("%d over IPv4 is %d, and that %d, %v", n, x, back, ok)
			}
		}
		if x, ok := head46.Proto(n); ok {
			if back, ok := Proto(x); back != n || !ok {
				t.Errorf("%d over IPv6 is %d, and that %d, %v", n, x, back, ok)
			}
		}
	}
}

// P13.1, P13.2: the bound of what is small, with Frag and without; extensions do not count, nor does whether it may go over.
func TestSmall(t *testing.T) {
	for n, want := range map[int]bool{0: true, 1: true, 1239: true, 1240: true, 1241: false, 1242: false, 1260: false, 1261: false, 1280: false, 65515: false, 65516: false, 1 << 20: false} {
		p, q := small()
		p.Data = strings.Repeat("x", n)
		q.Data = p.Data
		if !want {
			q.Id, q.DF = 0, true
		}
		for _, exts := range append(append(passing, routed...), odd...) {
			p.Exts = exts
			if Wants(p) != want {
				t.Errorf("%d bytes with %v: %v", n, exts, !want)
			}
		}
		if p.Exts = nil; n <= 65515 {
			becomes(t, []any{"small", n}, p, own, q)
		} else {
			fails(t, []any{"small", n}, p, own, api.ErrLong)
		}
		p.Frag = true
		if q.Id, q.DF = 0, false; n <= 65515 {
			becomes(t, []any{"a piece", n}, p, own, q)
		}
		if Wants(p) {
			t.Errorf("%d bytes with Frag are wanted an Id of", n)
		}
	}
	for _, p := range []api.Ip6{{}, {Hop: -1, Class: 999, Proto: 44, Flow: -5}, {Id: 7, At: 8, More: true, Data: "x"}, {At: math.MaxInt, Data: strings.Repeat("x", 1240)}, {At: math.MinInt}} {
		if !Wants(p) {
			t.Errorf("%s is small", brief(p))
		}
		if p.Frag = true; Wants(p) {
			t.Errorf("%s is a piece", brief(p))
		}
	}
}

// P13.2: the chapter's examples.
func TestExamples(t *testing.T) {
	becomes(t, "the first", api.Ip6{Class: 5, Hop: 9, Proto: 58, Data: "hi"}, 7, api.Ip4{Tos: 5, Ttl: 8, Proto: 1, Id: 7, From: from, To: to, Data: "hi"})
	becomes(t, "the second", api.Ip6{Hop: 9, Frag: true, Id: 65543, At: 8, Proto: 17, Data: "hi"}, 9, api.Ip4{Ttl: 8, Proto: 17, Id: 7, At: 8, From: from, To: to, Data: "hi"})
	p := api.Ip6{Hop: 9, Proto: 17, Data: strings.Repeat("x", 1241)}
	becomes(t, "the third", p, 9, api.Ip4{Ttl: 8, Proto: 17, DF: true, From: from, To: to, Data: p.Data})
	if Wants(p) {
		t.Error("the third is not small")
	}
}

// P13.2, P13.3: every part of a small packet, of one that is not, and of a piece.
func TestParts(t *testing.T) {
	for name, f := range kinds {
		p, q := f()
		becomes(t, name, p, own, q)
	}
	becomes(t, "of zero values", api.Ip6{Hop: 2, Proto: 255}, 0, api.Ip4{Ttl: 1, Proto: 255, From: from, To: to})
	becomes(t, "of zero values and Frag", api.Ip6{Hop: 2, Proto: 3, Frag: true}, own, api.Ip4{Ttl: 1, Proto: 3, From: from, To: to})
}

// P13.2, P13.3: the hop limit at its bounds, and beyond; the time to live is one less.
func TestHop(t *testing.T) {
	for name, f := range kinds {
		for n := 2; n <= 255; n++ {
			p, q := f()
			p.Hop, q.Ttl = n, n-1
			becomes(t, []any{name, "Hop", n}, p, own, q)
		}
		for _, n := range []int{1, 0, -1, -2, -254, -255, -256, 256, 257, 258, 511, 512, 1 << 16, 1<<32 + 64, math.MaxInt, math.MinInt, math.MinInt + 64} {
			p, _ := f()
			p.Hop = n
			fails(t, []any{name, "Hop", n}, p, own, api.ErrRange)
		}
	}
}

// P13.2: Class at its bounds, and beyond.
func TestClass(t *testing.T) {
	for name, f := range kinds {
		for n := range 256 {
			p, q := f()
			p.Class, q.Tos = n, n
			becomes(t, []any{name, "Class", n}, p, own, q)
		}
		for _, n := range []int{-1, -2, -128, -255, -256, 256, 257, 511, 512, 1 << 16, 1<<32 + 5, math.MaxInt, math.MinInt, math.MinInt + 5} {
			p, _ := f()
			p.Class = n
			fails(t, []any{name, "Class", n}, p, own, api.ErrRange)
		}
	}
}

// P13.2: the id at its bounds, and beyond; it is asked for its bounds where it is not wanted too, and is then not there.
func TestId(t *testing.T) {
	for name, f := range kinds {
		for _, id := range []int{0, 1, 7, 255, 256, 0x7fff, 0x8000, 0xabcd, 65534, 65535} {
			p, q := f()
			if name == "small" {
				q.Id = id
			}
			becomes(t, []any{name, "id", id}, p, id, q)
		}
		for _, id := range []int{-1, -2, -65535, -65536, 65536, 65537, 1 << 17, 1 << 32, 1<<32 + 7, math.MaxInt, math.MinInt, math.MinInt + 7} {
			p, _ := f()
			fails(t, []any{name, "id", id}, p, id, api.ErrRange)
		}
	}
}

// P13.2: of each protocol there is a head just where Proto tells one, in a piece too.
func TestProtocols(t *testing.T) {
	numbers := append([]int{}, refused...)
	for n := -1; n <= 256; n++ {
		numbers = append(numbers, n)
	}
	for name, f := range kinds {
		for _, n := range numbers {
			p, q := f()
			p.Proto = n
			if q.Proto = plainProto(n); q.Proto < 0 {
				fails(t, []any{name, "Proto", n}, p, own, api.ErrKind)
				continue
			}
			becomes(t, []any{name, "Proto", n}, p, own, q)
		}
	}
}

// P13.2, P13.3: extensions leave nothing, whatever they are, but for a route that is not used up.
func TestExtensions(t *testing.T) {
	for name, f := range kinds {
		for _, exts := range append(append([][]api.Ext{}, passing...), odd...) {
			p, q := f()
			p.Exts = exts
			becomes(t, []any{name, exts}, p, own, q)
		}
		for _, exts := range routed {
			p, _ := f()
			p.Exts = exts
			fails(t, []any{name, exts}, p, own, api.ErrKind)
		}
		for left := range 256 {
			p, q := f()
			if p.Exts = []api.Ext{{Kind: 43, Body: string([]byte{9, byte(left), 0, 0, 0, 0})}}; left == 0 {
				becomes(t, []any{name, "none left"}, p, own, q)
			} else {
				fails(t, []any{name, left, "left"}, p, own, api.ErrKind)
			}
		}
	}
}

// P13.2: 20, At and Data together at their bound, and beyond; At counts without Frag too.
func TestLong(t *testing.T) {
	for _, x := range []struct{ at, data int }{
		{0, 65514}, {0, 65515}, {8, 65507}, {64, 65451}, {65504, 11}, {65512, 3}, {65515, 0}, {65514, 1}, {32768, 32747}, {-8, 65523}, {-65536, 131051},
		{math.MinInt, 0}, {math.MinInt, 1}, {math.MinInt + 20, 100}, {math.MinInt, 1 << 20},
	} {
		for _, frag := range []bool{true, false} {
			p, q := head(strings.Repeat("x", x.data)), api.Ip4{Tos: 0xa5, Ttl: 63, Proto: 6, From: from, To: to}
			p.Frag, p.At = frag, x.at
			if q.Data = p.Data; frag {
				q.At = x.at
			} else if x.data <= 1240 {
				q.Id = own
			} else {
				q.DF = true
			}
			becomes(t, []any{x, frag}, p, own, q)
		}
	}
	for _, x := range []struct{ at, data int }{
		{0, 65516}, {0, 65535}, {0, 65536}, {0, 1 << 20}, {8, 65508}, {8, 65509}, {65504, 12}, {65512, 4}, {65515, 1}, {65516, 0}, {65520, 0}, {65528, 0}, {65535, 0}, {65536, 0}, {-8, 65524}, {-65536, 131052},
		{1 << 31, 0}, {1 << 32, 0}, {1<<32 + 8, 8}, {math.MaxInt, 0}, {math.MaxInt, 1}, {math.MaxInt - 7, 8}, {math.MaxInt - 19, 0}, {math.MaxInt - 20, 0}, {math.MaxInt - 20, 1}, {math.MaxInt, 1 << 20},
	} {
		for _, frag := range []bool{true, false} {
			p := head(strings.Repeat("x", x.data))
			p.Frag, p.At = frag, x.at
			fails(t, []any{x, frag}, p, own, api.ErrLong)
			p.More = true
			fails(t, []any{x, frag, "more"}, p, own, api.ErrLong)
		}
	}
}

// P13.2 and R2: the range's error comes first, then the kind's, then that it is too long.
func TestWhichError(t *testing.T) {
	exts := append(append([][]api.Ext{}, passing[:4]...), routed[:3]...)
	seen := map[api.Errno]int{}
	for _, hop := range []int{-1, 0, 1, 2, 255, 256} {
		for _, class := range []int{-1, 0, 255, 256} {
			for _, id := range []int{-1, 0, 65535, 65536} {
				for _, x := range exts {
					for _, proto := range []int{-1, 0, 1, 2, 6, 44, 58, 255, 256} {
						for _, at := range []int{0, 8, 65504, 65512, math.MaxInt} {
							p := head("eight by")
							p.Hop, p.Class, p.Exts, p.Proto, p.At, p.Frag = hop, class, x, proto, at, at%16 == 8
							seen[asked(t, p, p, id)]++
						}
					}
				}
			}
		}
	}
	for _, c := range []api.Errno{api.OK, api.ErrRange, api.ErrKind, api.ErrLong} {
		if seen[c] < 100 {
			t.Errorf("only %d of code %d", seen[c], c)
		}
	}
	far := strings.Repeat("x", 65516)
	for name, x := range map[string]struct {
		p    api.Ip6
		id   int
		want api.Errno
	}{
		"range, kind, long":      {api.Ip6{Hop: 1, Proto: 44, Data: far}, 0, api.ErrRange},
		"range of Class, route":  {api.Ip6{Hop: 9, Class: -1, Proto: 6, Exts: routed[0]}, 0, api.ErrRange},
		"range of Class, kind":   {api.Ip6{Hop: 9, Class: 256, Proto: 1}, 0, api.ErrRange},
		"range of id, route":     {api.Ip6{Hop: 9, Proto: 6, Exts: routed[0]}, 65536, api.ErrRange},
		"range of id, kind":      {api.Ip6{Hop: 9, Proto: 60}, -1, api.ErrRange},
		"range of id, long":      {api.Ip6{Hop: 9, Proto: 6, Data: far}, -1, api.ErrRange},
		"range of id of a piece": {api.Ip6{Hop: 9, Frag: true, Proto: 6, At: math.MaxInt}, 65536, api.ErrRange},
		"range of Hop, long":     {api.Ip6{Hop: 256, Proto: 6, Data: far}, 0, api.ErrRange},
		"route and long":         {api.Ip6{Hop: 9, Proto: 6, Exts: routed[1], Data: far}, 0, api.ErrKind},
		"kind and long":          {api.Ip6{Hop: 9, Proto: 256, At: math.MaxInt}, 0, api.ErrKind},
		"route and kind":         {api.Ip6{Hop: 9, Proto: 43, Exts: routed[2]}, 0, api.ErrKind},
	} {
		fails(t, name, x.p, x.id, x.want)
	}
}

// P13.2: More alone, At alone, both, none of them, with Frag and without; an Id of more than 16 bits.
func TestPieces(t *testing.T) {
	for _, at := range []int{0, 8, 16, 1480, 32768, 65496} {
		for _, more := range []bool{false, true} {
			for _, id := range []uint32{0, 1, 7, 0x7fff, 0x8000, 0xffff, 0x10000, 65543, 0xabcd0000, 0xabcd1234, 0xffff0007, math.MaxUint32} {
				p, q := piece()
				p.At, p.More, p.Id = at, more, id
				q.At, q.More, q.Id = at, more, int(id&0xffff)
				becomes(t, []any{at, more, id}, p, own, q)
				p.Frag = false
				_, q = small()
				becomes(t, []any{at, more, id, "without Frag"}, p, own, q)
			}
		}
	}
	for _, more := range []bool{false, true} {
		p, q := long()
		p.Id, p.At, p.More = 0xabcd1234, 8, more
		becomes(t, []any{"long", more, "without Frag"}, p, own, q)
		p.Frag = true
		q.Id, q.At, q.More, q.DF = 0x1234, 8, more, false
		becomes(t, []any{"long", more, "with Frag"}, p, own, q)
	}
}

// P13.2: no other bounds are named for At; it is handed on as it is.
func TestPlacesOutOfBounds(t *testing.T) {
	for _, at := range []int{1, 4, 7, 9, 65499, -1, -8, -65536, math.MinInt, math.MinInt + 8} {
		p, q := piece()
		p.At, q.At = at, at
		becomes(t, []any{"At", at}, p, own, q)
	}
}

// P13.3: no data, some, many: they stay as they were.
func TestData(t *testing.T) {
	chance := rand.New(rand.NewSource(13))
	for _, n := range []int{0, 1, 2, 7, 8, 9, 1239, 1240, 1241, 1480, 9000, 65514, 65515} {
		b := make([]byte, n)
		chance.Read(b)
		for _, s := range []string{string(b), strings.Repeat("\x00", n), strings.Repeat("\xff", n)} {
			p := head(s)
			asked(t, n, p, own)
			if q, _ := Head(p, from, to, own); q.Data != s {
				t.Errorf("%d bytes: other ones", n)
			}
			p.Frag, p.Id = true, 0xabcd1234
			asked(t, n, p, own)
			if q, _ := Head(p, from, to, own); q.Data != s {
				t.Errorf("%d bytes of a piece: other ones", n)
			}
		}
	}
}

// P13.2, P13.3: the addresses are those that were handed in; the IPv6 ones, the flow and the extensions change nothing.
func TestNothingLeft(t *testing.T) {
	chance := rand.New(rand.NewSource(14))
	for name, f := range kinds {
		for range 300 {
			p, q := f()
			chance.Read(p.From[:])
			chance.Read(p.To[:])
			p.Flow = []int{0, 1, 1<<20 - 1, 1 << 20, -1, math.MaxInt, math.MinInt, chance.Intn(1 << 20)}[chance.Intn(8)]
			p.Exts = passing[chance.Intn(len(passing))]
			chance.Read(q.From[:])
			chance.Read(q.To[:])
			if got, e := Head(p, q.From, q.To, own); e != nil || got != q {
				t.Fatalf("%s, %s: %s, %v, not %s", name, brief(p), brief(got), e, brief(q))
			}
		}
		for _, x := range []struct{ from, to api.V4 }{{}, {from: from}, {to: to}, {from, from}} {
			p, q := f()
			q.From, q.To = x.from, x.to
			if got, e := Head(p, x.from, x.to, own); e != nil || got != q {
				t.Errorf("%s, %v: %s, %v", name, x, brief(got), e)
			}
		}
	}
}

// somePacket is a packet of chance that has bytes.
func somePacket(chance *rand.Rand) api.Ip6 {
	p := api.Ip6{Class: chance.Intn(256), Flow: chance.Intn(1 << 20), Hop: chance.Intn(256), Proto: chance.Intn(256)}
	for p.Proto == 0 || p.Proto == 43 || p.Proto == 44 || p.Proto == 60 {
		p.Proto = chance.Intn(256)
	}
	chance.Read(p.From[:])
	chance.Read(p.To[:])
	p.Exts = passing[chance.Intn(len(passing))]
	if chance.Intn(8) == 0 {
		p.Exts = routed[chance.Intn(len(routed))]
	}
	n := []int{8 * chance.Intn(6), 1200 + 8*chance.Intn(12), 1237 + chance.Intn(9), 65496 + chance.Intn(25)}[chance.Intn(4)]
	if n > 65000 {
		p.Exts = nil // with them there would be no bytes
	}
	if p.Frag = chance.Intn(2) == 0; p.Frag {
		p.Id, n = chance.Uint32(), n/8*8
		p.More = n > 0 && chance.Intn(2) == 0
		p.At = 8 * chance.Intn((65535-n)/8+1)
		if chance.Intn(4) == 0 {
			p.At = (65535 - n) / 8 * 8
		}
	}
	data := make([]byte, n)
	chance.Read(data)
	p.Data = string(data)
	return p
}

// P13.2, P13.3: packets of chance; what an IPv6 packet with bytes is made has bytes too.
func TestChance(t *testing.T) {
	chance := rand.New(rand.NewSource(15))
	seen := map[api.Errno]int{}
	for range 4000 {
		p := somePacket(chance)
		if _, e := ip6.Bytes(p); e != nil {
			t.Fatalf("%s: %v", brief(p), e)
		}
		id := chance.Intn(65536)
		code := asked(t, p, p, id)
		seen[code]++
		if code != api.OK {
			continue
		}
		q, _ := Head(p, from, to, id)
		s, e := ip4.Bytes(q)
		if e != nil {
			t.Fatalf("%s: %s has no bytes: %v", brief(p), brief(q), e)
		}
		if back, e := ip4.Parse(s); e != nil || back != q {
			t.Fatalf("%s: %s, %v, not %s", brief(p), brief(back), e, brief(q))
		}
	}
	for _, c := range []api.Errno{api.OK, api.ErrRange, api.ErrKind, api.ErrLong} {
		if seen[c] < 25 {
			t.Errorf("only %d of code %d", seen[c], c)
		}
	}
}

// unlike is a packet without what is lost on the way over and back.
func unlike(p api.Ip6) api.Ip6 {
	p.Flow, p.Exts, p.From, p.To = 0, nil, api.V6{}, api.V6{}
	p.Id &= 0xffff
	return p
}

// P13.3: over IPv4 and back by head46 all of a packet that is not small is as it was, but for what is named, and a hop each way.
func TestOverAndBack(t *testing.T) {
	chance := rand.New(rand.NewSource(16))
	seen := map[string]int{}
	for range 6000 {
		p := somePacket(chance)
		q, e := Head(p, from, to, own)
		if e != nil || q.Ttl < 2 || Wants(p) {
			continue
		}
		back, e := head46.Head(q, p.From, p.To)
		if e != nil {
			t.Fatalf("%s: %v", brief(p), e)
		}
		want := unlike(p)
		switch want.Hop -= 2; {
		case !p.Frag:
			seen["long"]++
		case p.At == 0 && !p.More:
			// Over IPv4 nothing tells such a piece, which is all of a datagram, from a whole packet.
			want.Frag, want.Id = false, 0
			seen["a whole in a piece"]++
		default:
			seen["a piece"]++
		}
		if got := unlike(back); !reflect.DeepEqual(got, want) || back.Flow != 0 || len(back.Exts) != 0 || back.From != p.From || back.To != p.To {
			t.Fatalf("%s: %s, not %s", brief(p), brief(got), brief(want))
		}
	}
	for _, name := range []string{"long", "a whole in a piece", "a piece"} {
		if seen[name] < 15 {
			t.Errorf("only %d of %s", seen[name], name)
		}
	}
}

// P13.3: the other way round a piece keeps its Id, place and More, a packet that is not small gets DF, and a small one the id.
func TestBackAndOver(t *testing.T) {
	chance := rand.New(rand.NewSource(17))
	for range 2000 {
		p := api.Ip4{Tos: chance.Intn(256), Id: chance.Intn(65536), Ttl: 3 + chance.Intn(253), Proto: kept[chance.Intn(len(kept))], From: from, To: to}
		p.DF, p.More = chance.Intn(2) == 0, chance.Intn(2) == 0
		p.At = 8 * chance.Intn(2) * chance.Intn(8000)
		p.Data = strings.Repeat("eight by", 1+chance.Intn(180))
		over, e := head46.Head(p, api.V6{1}, api.V6{2})
		if e != nil {
			t.Fatalf("%s: %v", brief(p), e)
		}
		got, e := Head(over, from, to, own)
		want := p
		want.Ttl, want.DF = p.Ttl-2, false
		if p.At == 0 && !p.More {
			if want.Id = own; len(p.Data) > 1240 {
				want.Id, want.DF = 0, true
			}
		}
		if e != nil || got != want {
			t.Fatalf("%s: %s, %v, not %s", brief(p), brief(got), e, brief(want))
		}
	}
}

// R3, R4: an answer hangs on nothing that an earlier one left, and a packet's extensions are not changed.
func TestAnswersAreNew(t *testing.T) {
	for _, p := range []api.Ip6{{Hop: 1}, {Hop: 9, Proto: 44}, {Hop: 9, Proto: 6, At: 65516}} {
		_, e := Head(p, from, to, own)
		code := num.Code(e)
		*num.Only(e) = num.Fault{Code: api.ErrWord, At: 9}
		fails(t, p, p, own, code)
	}
	p, q := small()
	room := append(p.Exts, api.Ext{Kind: 43, Body: "\x00\x09room"})
	kept := slices.Clone(room)
	p.Exts = room[:len(p.Exts)]
	becomes(t, "with spare room", p, own, q)
	if !slices.Equal(room, kept) {
		t.Errorf("%v, not %v", room, kept)
	}
}

// FuzzHead is P13.1 to P13.3, of whatever packet.
func FuzzHead(f *testing.F) {
	f.Add(5, 9, 58, uint32(0), 0, 7, false, false, 0, "", "hi")
	f.Add(0, 9, 17, uint32(65543), 8, 9, true, false, 0, "", "hi")
	f.Add(0, 9, 17, uint32(0), 0, 9, false, false, 0, "", strings.Repeat("x", 1241))
	f.Add(0, 9, 6, uint32(0), 0, 9, false, false, 43, "\x00\x01abcd", strings.Repeat("x", 1240))
	f.Add(255, 255, 6, uint32(9), math.MaxInt, 65535, true, true, 43, "\x00\x00abcd", "eight by")
	f.Add(-1, 256, 44, uint32(9), -8, 65536, true, true, 60, "\x00", "eight by")
	f.Fuzz(func(t *testing.T, class, hop, proto int, pid uint32, at, id int, frag, more bool, kind int, body, data string) {
		p := api.Ip6{Class: class, Flow: at, Hop: hop, From: api.V6{1}, To: api.V6{2}, Exts: []api.Ext{{Kind: kind, Body: body}}, Frag: frag, Id: pid, At: at, More: more, Proto: proto, Data: data}
		asked(t, p, p, id)
	})
}
