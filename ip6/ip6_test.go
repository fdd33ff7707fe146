package ip6

import (
	"bytes"
	"errors"
	"fmt"
	"math"
	"math/rand"
	"reflect"
	"strings"
	"testing"

	"interpreter/api"
	"interpreter/num"
)

// example is the chapter's packet, and exampleBytes its bytes.
func example() api.Ip6 { return api.Ip6{Hop: 64, Proto: 17, Data: "hi"} }

const noughts32 = "\x00\x00\x00\x00\x00\x00\x00\x00\x00\x00\x00\x00\x00\x00\x00\x00\x00\x00\x00\x00\x00\x00\x00\x00\x00\x00\x00\x00\x00\x00\x00\x00"

const exampleBytes = "\x60\x00\x00\x00\x00\x02\x11\x40" + noughts32 + "hi"

// piece is a packet in which every part says something, and pieceBytes its bytes.
func piece() api.Ip6 {
	return api.Ip6{
		Class: 0xa5, Flow: 0x81234, Hop: 9,
		From: api.V6{0x20, 1, 0xd, 0xb8, 4, 5, 6, 7, 8, 9, 10, 11, 12, 13, 14, 15},
		To:   api.V6{0xfe, 0x80, 18, 19, 20, 21, 22, 23, 24, 25, 26, 27, 28, 29, 30, 31},
		Exts: []api.Ext{{Kind: 0, Body: "hopbyh"}, {Kind: 43, Body: "\x02\x01route to be.."[:14]}, {Kind: 60, Body: "\x01\x04\x00\x00\x00\x00"}},
		Frag: true, Id: 0xfedcba98, At: 0x1238, More: true, Proto: 6, Data: "sixteen bytes ..",
	}
}

const pieceBytes = "\x6a\x58\x12\x34\x00\x38\x00\x09" +
	"\x20\x01\x0d\xb8\x04\x05\x06\x07\x08\x09\x0a\x0b\x0c\x0d\x0e\x0f" +
	"\xfe\x80\x12\x13\x14\x15\x16\x17\x18\x19\x1a\x1b\x1c\x1d\x1e\x1f" +
	"\x2b\x00hopbyh" +
	"\x3c\x01\x02\x01route to be." +
	"\x2c\x00\x01\x04\x00\x00\x00\x00" +
	"\x06\x00\x12\x39\xfe\xdc\xba\x98" +
	"sixteen bytes .."

// fails asks that an error is a fault of that code at 0, or none.
func fails(t *testing.T, what any, e error, code api.Errno) {
	t.Helper()
	if code == api.OK {
		if e != nil {
			t.Errorf("%v: %v, not none", what, e)
		}
		return
	}
	var f *num.Fault
	if !errors.As(e, &f) || f == nil || *f != (num.Fault{Code: code}) {
		t.Errorf("%v: %v, not fault %d at 0", what, e, code)
	}
}

// same says whether two packets are the same; lists of no extensions are, nil or empty.
func same(p, q api.Ip6) bool {
	exts := sameExts(p.Exts, q.Exts)
	p.Exts, q.Exts = nil, nil
	return exts && reflect.DeepEqual(p, q)
}

// sameExts says whether two lists of extensions are the same.
func sameExts(a, b []api.Ext) bool {
	return len(a) == 0 && len(b) == 0 || reflect.DeepEqual(a, b)
}

// plainChains says whether a next is an extension's, as the chapter says it.
func plainChains(next int) bool { return next == 0 || next == 43 || next == 60 }

// plainCode is what Bytes has to refuse a packet by, as the chapter says it.
func plainCode(p api.Ip6) api.Errno {
	for x, most := range map[*int]int{&p.Class: 255, &p.Flow: 1048575, &p.Hop: 255, &p.Proto: 255, &p.At: 65528} {
		if *x < 0 || *x > most {
			return api.ErrRange
		}
	}
	if p.At/8*8 != p.At {
		return api.ErrRange
	}
	for _, x := range p.Exts {
		if !plainChains(x.Kind) {
			return api.ErrKind
		}
	}
	if !p.Frag && (plainChains(p.Proto) || p.Proto == 44) {
		return api.ErrKind
	}
	if c := plainForm(p); c != api.OK {
		return c
	}
	behind := len(p.Data)
	if p.Frag {
		behind += 8
	}
	for _, x := range p.Exts {
		behind += 2 + len(x.Body)
	}
	if len(p.Exts) > 8 || p.At+len(p.Data) > 65535 || behind > 65535 {
		return api.ErrLong
	}
	return api.OK
}

// plainForm is that of its codes which is of the form, or OK.
func plainForm(p api.Ip6) api.Errno {
	for i, x := range p.Exts {
		right := false
		for k := range 256 {
			right = right || len(x.Body) == 6+8*k
		}
		if !right || x.Kind == 0 && i > 0 {
			return api.ErrForm
		}
	}
	if !p.Frag && (p.Id != 0 || p.At != 0 || p.More) {
		return api.ErrForm
	}
	if n := len(p.Data); p.Frag && p.More && (n == 0 || n/8*8 != n) {
		return api.ErrForm
	}
	return api.OK
}

// plainBytes is the bytes of a packet that has some, as the chapter says them; of the Bodies, of whatever places and number.
func plainBytes(p api.Ip6) string {
	var nexts []byte
	for _, x := range p.Exts {
		nexts = append(nexts, byte(x.Kind))
	}
	if p.Frag {
		nexts = append(nexts, 44)
	}
	nexts = append(nexts, byte(p.Proto))
	var b []byte
	for i, x := range p.Exts {
		b = append(append(b, nexts[i+1], byte((2+len(x.Body))/8-1)), x.Body...)
	}
	if p.Frag {
		last := byte(0)
		if p.More {
			last = 1
		}
		b = append(b, byte(p.Proto), 0, byte(p.At>>8), byte(p.At)|last, byte(p.Id>>24), byte(p.Id>>16), byte(p.Id>>8), byte(p.Id))
	}
	n := len(b) + len(p.Data)
	head := []byte{6<<4 | byte(p.Class>>4), byte(p.Class<<4) | byte(p.Flow>>16), byte(p.Flow >> 8), byte(p.Flow), byte(n >> 8), byte(n), nexts[0], byte(p.Hop)}
	head = append(append(head, p.From[:]...), p.To[:]...)
	return string(head) + string(b) + p.Data
}

// plainChain is what Chain has to answer, as the chapter says it.
func plainChain(next int, s string) ([]api.Ext, int, string, api.Errno) {
	var l []api.Ext
	for plainChains(next) {
		if next == 0 && len(l) > 0 {
			return nil, 0, "", api.ErrForm
		}
		if len(l) == 8 {
			return nil, 0, "", api.ErrLong
		}
		if len(s) < 2 || len(s) < 8+8*int(s[1]) {
			return nil, 0, "", api.ErrShort
		}
		n := 8 + 8*int(s[1])
		l = append(l, api.Ext{Kind: next, Body: s[2:n]})
		next, s = int(s[0]), s[n:]
	}
	return l, next, s, api.OK
}

// plainParse is what Parse has to answer, as the chapter says it.
func plainParse(s string) (api.Ip6, api.Errno) {
	if len(s) < 40 {
		return api.Ip6{}, api.ErrShort
	}
	if s[0]>>4 != 6 {
		return api.Ip6{}, api.ErrForm
	}
	n := 256*int(s[4]) + int(s[5])
	if len(s) < 40+n {
		return api.Ip6{}, api.ErrShort
	}
	l, proto, rest, c := plainChain(int(s[6]), s[40:40+n])
	if c != api.OK {
		return api.Ip6{}, c
	}
	p := api.Ip6{Class: int(s[0]<<4 | s[1]>>4), Flow: int(s[1]%16)<<16 + int(s[2])<<8 + int(s[3]), Hop: int(s[7]), Exts: l, Proto: proto, Data: rest}
	copy(p.From[:], s[8:24])
	copy(p.To[:], s[24:40])
	if proto != 44 {
		return p, api.OK
	}
	if len(rest) < 8 {
		return api.Ip6{}, api.ErrShort
	}
	place := 256*int(rest[2]) + int(rest[3])
	p.Frag, p.Proto, p.At, p.More = true, int(rest[0]), place/8*8, place%2 == 1
	for i := 4; i < 8; i++ {
		p.Id = p.Id<<8 + uint32(rest[i])
	}
	p.Data = rest[8:]
	if d := len(p.Data); p.More && (d == 0 || d/8*8 != d) || p.At+d > 65535 {
		return api.Ip6{}, api.ErrForm
	}
	return p, api.OK
}

// with is a text with some bytes put at a place.
func with(s string, at int, put ...byte) string {
	b := []byte(s)
	copy(b[at:], put)
	return string(b)
}

// exts is a chain of n extensions of the Kind 60, each with the least Body.
func exts(n int) []api.Ext {
	return repeated(n, api.Ext{Kind: 60, Body: "least."})
}

// repeated is a list of n of one extension.
func repeated(n int, x api.Ext) (l []api.Ext) {
	for range n {
		l = append(l, x)
	}
	return l
}

// asks holds Bytes of a packet against what it has to answer, and the plain words against the same.
func asks(t *testing.T, what any, p api.Ip6, code api.Errno) {
	t.Helper()
	if c := plainCode(p); c != code {
		t.Errorf("%v: the chapter says %d, not %d", what, c, code)
	}
	s, e := Bytes(p)
	fails(t, what, e, code)
	if code != api.OK && s != "" {
		t.Errorf("%v: %d bytes beside an error", what, len(s))
	}
	if code == api.OK && s != plainBytes(p) {
		t.Errorf("%v: %.200x, not %.200x", what, s, plainBytes(p))
	}
}

// refused asks that a text is refused by that code, with no packet beside it.
func refused(t *testing.T, what any, s string, code api.Errno) {
	t.Helper()
	p, e := Parse(s)
	fails(t, what, e, code)
	if !same(p, api.Ip6{}) {
		t.Errorf("%v: %v beside an error", what, p)
	}
}

// parsed asks that a text is parsed as that packet.
func parsed(t *testing.T, what any, s string, want api.Ip6) {
	t.Helper()
	p, e := Parse(s)
	if e != nil || !same(p, want) {
		t.Errorf("%v: %.200v, %v, not %.200v", what, p, e, want)
	}
}

// P4.1 to P4.3: the chapter's examples.
func TestExamples(t *testing.T) {
	if s, e := Bytes(example()); e != nil || s != exampleBytes {
		t.Errorf("%x, %v", s, e)
	}
	parsed(t, "back", exampleBytes, example())
	l, proto, rest, e := Chain(60, "\x11\x00\x01\x04\x00\x00\x00\x00hi")
	if !sameExts(l, []api.Ext{{Kind: 60, Body: "\x01\x04\x00\x00\x00\x00"}}) || proto != 17 || rest != "hi" || e != nil {
		t.Errorf("%v, %d, %q, %v", l, proto, rest, e)
	}
	refused(t, "39 bytes", exampleBytes[:39], api.ErrShort)
	asks(t, "Proto 44", api.Ip6{Proto: 44}, api.ErrKind)
	asks(t, "Flow 2^20", api.Ip6{Flow: 1 << 20}, api.ErrRange)
}

// P4.2, P4.3: a packet of which every part says something, byte by byte.
func TestEveryPart(t *testing.T) {
	if s, e := Bytes(piece()); e != nil || s != pieceBytes {
		t.Errorf("%x, %v", s, e)
	}
	parsed(t, "back", pieceBytes, piece())
	if plainBytes(piece()) != pieceBytes {
		t.Error("the plain words say otherwise")
	}
}

// P4.3: each number at its bounds, and one beyond, with and without a fragment's head.
func TestBounds(t *testing.T) {
	for _, frag := range []bool{false, true} {
		for name, x := range map[string]struct {
			part func(p *api.Ip6) *int
			most int
		}{
			"Class": {func(p *api.Ip6) *int { return &p.Class }, 255},
			"Flow":  {func(p *api.Ip6) *int { return &p.Flow }, 1<<20 - 1},
			"Hop":   {func(p *api.Ip6) *int { return &p.Hop }, 255},
			"Proto": {func(p *api.Ip6) *int { return &p.Proto }, 255},
		} {
			for _, v := range []int{math.MinInt, -1 << 32, -256, -1, 0, 1, x.most - 1, x.most, x.most + 1, 2 * (x.most + 1), 1 << 32, math.MaxInt} {
				p := example()
				p.Frag = frag
				*x.part(&p) = v
				want := api.OK
				if v < 0 || v > x.most {
					want = api.ErrRange
				} else if name == "Proto" && v == 0 && !frag {
					want = api.ErrKind
				}
				asks(t, []any{name, v, frag}, p, want)
			}
		}
	}
}

// P4.3: At is a multiple of 8 from 0 to 65528; without a fragment's head it is 0, and then what is no such place is still told first.
func TestPlaces(t *testing.T) {
	for at := -16; at <= 65560; at++ {
		p := api.Ip6{Frag: true, At: at}
		want := api.OK
		if at < 0 || at > 65528 || at%8 != 0 {
			want = api.ErrRange
		}
		asks(t, at, p, want)
		p = api.Ip6{At: at, Proto: 6}
		if want == api.OK && at != 0 {
			want = api.ErrForm
		}
		asks(t, []any{at, "no fragment's head"}, p, want)
	}
	for _, at := range []int{math.MinInt, math.MaxInt, math.MaxInt - 7, 1 << 32, -1 << 32} {
		asks(t, at, api.Ip6{Frag: true, At: at}, api.ErrRange)
	}
}

// P4.3: Id is any number of 32 bits.
func TestIds(t *testing.T) {
	for _, id := range []uint32{0, 1, 255, 256, 65535, 65536, 1 << 31, math.MaxUint32} {
		p := api.Ip6{Frag: true, Id: id}
		asks(t, id, p, api.OK)
		parsed(t, id, plainBytes(p), p)
	}
}

// P4.3: Kinds that are none, and every Proto with and without a fragment's head.
func TestKinds(t *testing.T) {
	for kind := -300; kind <= 600; kind++ {
		want := api.ErrKind
		if plainChains(kind) {
			want = api.OK
		}
		asks(t, kind, api.Ip6{Proto: 6, Exts: []api.Ext{{Kind: kind, Body: "least."}}}, want)
		asks(t, []any{kind, "in a piece"}, api.Ip6{Frag: true, Exts: []api.Ext{{Kind: kind, Body: "least."}}}, want)
		if kind == 0 {
			want = api.ErrForm
		}
		asks(t, []any{kind, "last of three"}, api.Ip6{Proto: 6, Exts: append(exts(2), api.Ext{Kind: kind, Body: "least."})}, want)
	}
	for proto := range 256 {
		want := api.OK
		if plainChains(proto) || proto == 44 {
			want = api.ErrKind
		}
		asks(t, []any{"Proto", proto}, api.Ip6{Proto: proto, Data: "12345678"}, want)
		asks(t, []any{"Proto behind an extension", proto}, api.Ip6{Exts: exts(1), Proto: proto, Data: "12345678"}, want)
		p := api.Ip6{Frag: true, Proto: proto, Data: "12345678"}
		asks(t, []any{"Proto of a piece", proto}, p, api.OK)
		parsed(t, []any{"Proto of a piece", proto}, plainBytes(p), p)
	}
}

// P4.3: Bodies of every length, first in the chain and behind others.
func TestBodies(t *testing.T) {
	for n := range 2100 {
		body := strings.Repeat("b", n)
		want := api.ErrForm
		if n >= 6 && n <= 2046 && (n-6)%8 == 0 {
			want = api.OK
		}
		for _, kind := range []int{0, 43, 60} {
			asks(t, []any{"Body", n, kind}, api.Ip6{Proto: 6, Exts: []api.Ext{{Kind: kind, Body: body}}}, want)
		}
		p := api.Ip6{Frag: true, Proto: 6, Exts: append(exts(2), api.Ext{Kind: 43, Body: body})}
		asks(t, []any{"last Body", n}, p, want)
		if want == api.OK {
			parsed(t, []any{"last Body", n}, plainBytes(p), p)
		}
	}
	asks(t, "a Body too long by 2^16", api.Ip6{Proto: 6, Exts: []api.Ext{{Kind: 60, Body: strings.Repeat("b", 6+65536)}}}, api.ErrForm)
}

// P4.3: one of the Kind 0 stands first, or nowhere.
func TestHopByHopFirst(t *testing.T) {
	for n := 1; n <= 8; n++ {
		for at := range n {
			l := exts(n)
			l[at].Kind = 0
			want := api.ErrForm
			if at == 0 {
				want = api.OK
			}
			asks(t, []any{n, at}, api.Ip6{Proto: 6, Exts: l}, want)
		}
	}
	asks(t, "two", api.Ip6{Proto: 6, Exts: repeated(2, api.Ext{Kind: 0, Body: "least."})}, api.ErrForm)
}

// P4.3: chains of 8 extensions have bytes, those of 9 are too long.
func TestChainLengths(t *testing.T) {
	for n := range 12 {
		want := api.OK
		if n > 8 {
			want = api.ErrLong
		}
		asks(t, n, api.Ip6{Proto: 17, Exts: exts(n), Data: "hi"}, want)
		asks(t, []any{n, "a piece"}, api.Ip6{Frag: true, Exts: exts(n), Data: "hi"}, want)
	}
	asks(t, "a lot", api.Ip6{Proto: 17, Exts: exts(1 << 16)}, api.ErrLong)
	asks(t, "empty, not nil", api.Ip6{Proto: 17, Exts: []api.Ext{}}, api.OK)
}

// P4.3: what Frag asks.
func TestPieces(t *testing.T) {
	for n := range 40 {
		want := api.ErrForm
		if n > 0 && n%8 == 0 {
			want = api.OK
		}
		data := strings.Repeat("d", n)
		asks(t, []any{"more behind", n}, api.Ip6{Frag: true, More: true, Data: data}, want)
		asks(t, []any{"more behind, a place", n}, api.Ip6{Frag: true, More: true, At: 8, Data: data}, want)
		asks(t, []any{"the last piece", n}, api.Ip6{Frag: true, At: 16, Data: data}, api.OK)
		asks(t, []any{"no piece", n}, api.Ip6{Proto: 6, Data: data}, api.OK)
	}
	for name, p := range map[string]api.Ip6{
		"Id":           {Proto: 6, Id: 1, Data: "12345678"},
		"Id, high":     {Proto: 6, Id: 1 << 31, Data: "12345678"},
		"At":           {Proto: 6, At: 8, Data: "12345678"},
		"the last At":  {Proto: 6, At: 65528, Data: "12345678"},
		"More":         {Proto: 6, More: true, Data: "12345678"},
		"all of these": {Proto: 6, Id: 7, At: 8, More: true, Data: "12345678"},
	} {
		asks(t, name, p, api.ErrForm)
		p.Frag = true
		want := api.OK
		if p.At == 65528 {
			want = api.ErrLong
		}
		asks(t, name+", with Frag", p, want)
	}
}

// P4.3: At and Data of 65535 bytes together and of 65536; 65535 bytes behind the head and 65536.
func TestLengths(t *testing.T) {
	data := func(n int) string { return strings.Repeat("x", n) }
	eights := func(n int) []api.Ext { return []api.Ext{{Kind: 60, Body: data(8*n - 2)}} }
	for name, x := range map[string]struct {
		p    api.Ip6
		want api.Errno
	}{
		"At and Data, 65535":                {api.Ip6{Frag: true, At: 65528, Data: data(7)}, api.OK},
		"At and Data, 65536":                {api.Ip6{Frag: true, At: 65528, Data: data(8)}, api.ErrLong},
		"At and Data, 65536, more behind":   {api.Ip6{Frag: true, At: 65528, More: true, Data: data(8)}, api.ErrLong},
		"At and Data, 65528, more behind":   {api.Ip6{Frag: true, At: 65520, More: true, Data: data(8)}, api.OK},
		"At and Data, 65535, much at once":  {api.Ip6{Frag: true, At: 8, Data: data(65527)}, api.OK},
		"At and Data, 65536, much at once":  {api.Ip6{Frag: true, At: 16, Data: data(65520)}, api.ErrLong},
		"behind the head, 65535":            {api.Ip6{Proto: 6, Data: data(65535)}, api.OK},
		"behind the head, 65536":            {api.Ip6{Proto: 6, Data: data(65536)}, api.ErrLong},
		"a fragment's head, 65535":          {api.Ip6{Frag: true, Data: data(65527)}, api.OK},
		"a fragment's head, 65536":          {api.Ip6{Frag: true, Data: data(65528)}, api.ErrLong},
		"an extension, 65535":               {api.Ip6{Proto: 6, Exts: eights(1), Data: data(65527)}, api.OK},
		"an extension, 65536":               {api.Ip6{Proto: 6, Exts: eights(1), Data: data(65528)}, api.ErrLong},
		"both, 65535":                       {api.Ip6{Frag: true, Exts: eights(256), Data: data(65535 - 8 - 2048)}, api.OK},
		"both, 65536":                       {api.Ip6{Frag: true, Exts: eights(256), Data: data(65536 - 8 - 2048)}, api.ErrLong},
		"a fragment's head, 65535 of Data":  {api.Ip6{Frag: true, Data: data(65535)}, api.ErrLong},
		"much too long":                     {api.Ip6{Proto: 6, Data: data(1 << 17)}, api.ErrLong},
		"the longest chain there may be":    {api.Ip6{Frag: true, Exts: repeated(8, eights(256)[0]), Data: data(65535 - 8 - 8*2048)}, api.OK},
		"the longest chain, one byte more":  {api.Ip6{Frag: true, Exts: repeated(8, eights(256)[0]), Data: data(65536 - 8 - 8*2048)}, api.ErrLong},
		"a place beyond, but nothing there": {api.Ip6{Frag: true, At: 65528}, api.OK},
	} {
		asks(t, name, x.p, x.want)
		if x.want == api.OK {
			parsed(t, name, plainBytes(x.p)+"behind", x.p)
		}
	}
}

// P4.3: of several errors the first one in the promise's order is told.
func TestWhichErrorFirst(t *testing.T) {
	// Each breaks one thing, in the order in which they are told.
	breaks := []struct {
		code api.Errno
		do   func(p *api.Ip6)
	}{
		{api.ErrRange, func(p *api.Ip6) { p.Class = -1 }},
		{api.ErrRange, func(p *api.Ip6) { p.Flow = 1 << 20 }},
		{api.ErrRange, func(p *api.Ip6) { p.Hop = 256 }},
		{api.ErrRange, func(p *api.Ip6) { p.Proto = 256 }},
		{api.ErrRange, func(p *api.Ip6) { p.At++ }},
		{api.ErrKind, func(p *api.Ip6) { p.Exts[2].Kind = 44 }},
		{api.ErrForm, func(p *api.Ip6) { p.Exts[1].Kind = 0 }},
		{api.ErrForm, func(p *api.Ip6) { p.Exts[0].Body = "seven b" }},
		{api.ErrForm, func(p *api.Ip6) { p.Data += "d" }},
		{api.ErrLong, func(p *api.Ip6) { p.Exts = append(p.Exts, exts(6)...) }},
		{api.ErrLong, func(p *api.Ip6) { p.Data += strings.Repeat("long ago", 1<<13) }},
	}
	for i, a := range breaks {
		for _, b := range breaks[i:] {
			p := piece()
			b.do(&p)
			a.do(&p)
			asks(t, []any{a.code, b.code}, p, a.code)
		}
	}
	asks(t, "Proto ahead of More", api.Ip6{Proto: 44, More: true}, api.ErrKind)
	asks(t, "Proto ahead of a Body", api.Ip6{Proto: 60, Exts: []api.Ext{{Kind: 60}}}, api.ErrKind)
	asks(t, "a Body ahead of nine", api.Ip6{Proto: 6, Exts: append(exts(8), api.Ext{Kind: 60})}, api.ErrForm)
	asks(t, "a Kind ahead of nine", api.Ip6{Proto: 6, Exts: append(exts(8), api.Ext{Kind: 59, Body: "least."})}, api.ErrKind)
	asks(t, "the place of 0 ahead of nine", api.Ip6{Proto: 6, Exts: append(exts(8), api.Ext{Kind: 0, Body: "least."})}, api.ErrForm)
	asks(t, "no Frag, but At, and too long", api.Ip6{Proto: 6, At: 8, Data: strings.Repeat("x", 65536)}, api.ErrForm)
}

// link is the bytes of an extension with that next and the least Body.
func link(next byte) string { return string([]byte{next, 0}) + "abcdef" }

// P4.1: chains of each kind and length, what ends them, and which error comes first.
func TestChain(t *testing.T) {
	nine := strings.Repeat(link(60), 8)
	for name, x := range map[string]struct {
		next  int
		data  string
		exts  []api.Ext
		proto int
		rest  string
		code  api.Errno
	}{
		"none":                            {17, "hi", nil, 17, "hi", 0},
		"none of nothing":                 {17, "", nil, 17, "", 0},
		"a fragment's head ends it":       {44, "\x3c\x00abcdef", nil, 44, "\x3c\x00abcdef", 0},
		"no next header ends it":          {59, link(60), nil, 59, link(60), 0},
		"others are no extensions":        {51, link(60), nil, 51, link(60), 0},
		"hop by hop":                      {0, link(6) + "data", []api.Ext{{Kind: 0, Body: "abcdef"}}, 6, "data", 0},
		"routing":                         {43, link(6) + "data", []api.Ext{{Kind: 43, Body: "abcdef"}}, 6, "data", 0},
		"destination":                     {60, link(6) + "data", []api.Ext{{Kind: 60, Body: "abcdef"}}, 6, "data", 0},
		"nothing behind":                  {60, link(6), []api.Ext{{Kind: 60, Body: "abcdef"}}, 6, "", 0},
		"in their order":                  {0, link(60) + "\x2b\x00ghijkl" + "\x3a\x01mnopqrstuvwxyz" + "rest", []api.Ext{{Kind: 0, Body: "abcdef"}, {Kind: 60, Body: "ghijkl"}, {Kind: 43, Body: "mnopqrstuvwxyz"}}, 58, "rest", 0},
		"a fragment's head behind":        {60, link(44) + link(60), []api.Ext{{Kind: 60, Body: "abcdef"}}, 44, link(60), 0},
		"the longest Body":                {60, "\x11\xff" + strings.Repeat("b", 2046) + "hi", []api.Ext{{Kind: 60, Body: strings.Repeat("b", 2046)}}, 17, "hi", 0},
		"the longest, cut by one":         {60, "\x11\xff" + strings.Repeat("b", 2045), nil, 0, "", api.ErrShort},
		"eight":                           {60, strings.Repeat(link(60), 7) + link(6) + "hi", repeated(8, api.Ext{Kind: 60, Body: "abcdef"}), 6, "hi", 0},
		"eight, then a fragment's head":   {60, strings.Repeat(link(60), 7) + link(44), repeated(8, api.Ext{Kind: 60, Body: "abcdef"}), 44, "", 0},
		"nine":                            {60, nine + link(6), nil, 0, "", api.ErrLong},
		"nine, the last not there":        {60, nine, nil, 0, "", api.ErrLong},
		"nine, the last of the Kind 0":    {60, strings.Repeat(link(60), 7) + link(0), nil, 0, "", api.ErrForm},
		"nine, the eighth cut":            {60, strings.Repeat(link(60), 8)[:63], nil, 0, "", api.ErrShort},
		"ten of the Kind 0":               {0, strings.Repeat(link(0), 10), nil, 0, "", api.ErrForm},
		"0 second":                        {60, link(0) + link(6), nil, 0, "", api.ErrForm},
		"0 second, not there":             {60, link(0), nil, 0, "", api.ErrForm},
		"0 third":                         {0, link(43) + link(0) + link(6), nil, 0, "", api.ErrForm},
		"0 behind what is cut":            {60, link(0)[:7], nil, 0, "", api.ErrShort},
		"nothing there":                   {60, "", nil, 0, "", api.ErrShort},
		"one byte there":                  {0, "\x06", nil, 0, "", api.ErrShort},
		"two bytes there":                 {43, "\x06\x00", nil, 0, "", api.ErrShort},
		"seven bytes there":               {43, link(6)[:7], nil, 0, "", api.ErrShort},
		"fifteen of sixteen bytes there":  {43, "\x06\x01thirteen more", nil, 0, "", api.ErrShort},
		"the second not there":            {43, link(60), nil, 0, "", api.ErrShort},
		"the second one byte short":       {43, link(60) + link(6)[:7], nil, 0, "", api.ErrShort},
		"a next below 0":                  {-1, link(60), nil, -1, link(60), 0},
		"a next below 0 with 60 at last":  {-196, link(60), nil, -196, link(60), 0},
		"a next of 256":                   {256, link(60), nil, 256, link(60), 0},
		"a next of 60 above 256":          {256 + 60, link(6), nil, 256 + 60, link(6), 0},
		"the greatest and the least next": {math.MaxInt, "x", nil, math.MaxInt, "x", 0},
	} {
		l, proto, rest, e := Chain(x.next, x.data)
		fails(t, name, e, x.code)
		if !sameExts(l, x.exts) || proto != x.proto || rest != x.rest {
			t.Errorf("%s: %v, %d, %q", name, l, proto, rest)
		}
	}
}

// P4.1: every chain of few links, cut anywhere.
func TestChainOfFew(t *testing.T) {
	var try func(next int, s string, depth int)
	try = func(next int, s string, depth int) {
		for cut := range 9 {
			s := s[:max(len(s)-cut, 0)]
			l, proto, rest, e := Chain(next, s)
			wl, wproto, wrest, code := plainChain(next, s)
			if num.Code(e) != code || !sameExts(l, wl) || proto != wproto || rest != wrest {
				t.Errorf("%d, %x: %v, %d, %x, %v", next, s, l, proto, rest, e)
			}
		}
		for _, after := range []byte{0, 6, 43, 44, 60} {
			if depth > 0 {
				try(next, s+link(after), depth-1)
				try(next, s+string([]byte{after, 1})+"fourteen bytes", depth-1)
			}
		}
	}
	for _, next := range []int{0, 6, 43, 44, 60} {
		try(next, "", 4)
	}
}

// P4.2: a text that ends anywhere ahead of a packet's end is too short, whatever part that is in.
func TestShort(t *testing.T) {
	for _, p := range []api.Ip6{example(), piece(), {Proto: 59}} {
		s := plainBytes(p)
		for n := range len(s) {
			refused(t, n, s[:n], api.ErrShort)
		}
		parsed(t, "whole", s, p)
	}
	refused(t, "short ahead of the form", strings.Repeat("\x00", 39), api.ErrShort)
	refused(t, "nothing", "", api.ErrShort)
	refused(t, "says the most bytes", with(exampleBytes, 4, 255, 255), api.ErrShort)
	refused(t, "says one byte more", with(exampleBytes, 5, 3), api.ErrShort)
	refused(t, "short ahead of the chain", with(plainBytes(api.Ip6{Proto: 6, Exts: exts(2)}), 5, 17, 60, 1), api.ErrShort)
	refused(t, "short ahead of 0 in the chain", with(plainBytes(api.Ip6{Proto: 6, Exts: exts(2)}), 40, 0)[:55], api.ErrShort)
}

// P4.2: the first 4 bits are 6; the 4 others are Class.
func TestFirstBits(t *testing.T) {
	for b := range 256 {
		s := with(exampleBytes, 0, byte(b))
		if b>>4 != 6 {
			refused(t, b, s, api.ErrForm)
			refused(t, []any{b, "the form ahead of short"}, s[:40], api.ErrForm)
			refused(t, []any{b, "the form ahead of the chain"}, with(s, 6, 60), api.ErrForm)
			continue
		}
		p := example()
		p.Class = b & 15 << 4
		parsed(t, b, s, p)
	}
}

// P4.2: Class and Flow share their bytes by 4 bits each.
func TestClassAndFlow(t *testing.T) {
	for bit := range 28 {
		p := example()
		if bit < 20 {
			p.Flow = 1 << bit
		} else {
			p.Class = 1 << (bit - 20)
		}
		x := 6<<28 | 1<<bit
		s := with(exampleBytes, 0, byte(x>>24), byte(x>>16), byte(x>>8), byte(x))
		parsed(t, bit, s, p)
		if got, e := Bytes(p); got != s || e != nil {
			t.Errorf("%d: %x, %v", bit, got, e)
		}
	}
}

// P4.2: only so many bytes count as are said to stand behind the head, whatever stands behind these.
func TestWhatIsSaid(t *testing.T) {
	p := api.Ip6{Hop: 3, Exts: []api.Ext{{Kind: 0, Body: "hopbyh"}}, Frag: true, At: 8, Id: 5, Proto: 17, Data: "nine byte"}
	s := plainBytes(p)
	for n := range len(s) - 40 + 1 {
		cut := with(s, 4, 0, byte(n))
		if n < 16 {
			refused(t, n, cut, api.ErrShort)
			continue
		}
		q := p
		q.Data = p.Data[:n-16]
		parsed(t, n, cut, q)
	}
	parsed(t, "no bytes said", with(exampleBytes, 5, 0), api.Ip6{Hop: 64, Proto: 17})
	refused(t, "an extension in what stands behind", with(with(exampleBytes, 5, 0, 60)+link(6), 5, 0), api.ErrShort)
}

// P4.2: an extension that is not all there, and each fault of a chain.
func TestParsedChains(t *testing.T) {
	good := api.Ip6{Proto: 6, Exts: []api.Ext{{Kind: 0, Body: "hopbyh"}, {Kind: 43, Body: "fourteen bytes"}}}
	s := plainBytes(good)
	for n := range 24 {
		refused(t, n, with(s, 4, 0, byte(n)), api.ErrShort)
	}
	parsed(t, "all there", s, good)
	refused(t, "0 second", with(s, 40, 0), api.ErrForm)
	refused(t, "0 second, not there", with(with(s, 40, 0), 5, 8), api.ErrForm)
	refused(t, "0 third", with(s, 48, 0), api.ErrForm)
	refused(t, "one that says too much", with(s, 49, 2), api.ErrShort)
	refused(t, "nine", plainBytes(api.Ip6{Proto: 6, Exts: exts(9)}), api.ErrLong)
	refused(t, "nine ahead of a fragment's head", plainBytes(api.Ip6{Frag: true, Exts: exts(9)}), api.ErrLong)
	eight := api.Ip6{Proto: 6, Exts: exts(8)}
	parsed(t, "eight", plainBytes(eight), eight)
	eight.Frag = true
	parsed(t, "eight, and a fragment's head", plainBytes(eight), eight)
}

// P4.2: behind a fragment's head no chain goes on, and the bits that are nobody's say nothing.
func TestFragmentHead(t *testing.T) {
	p := api.Ip6{Frag: true, At: 16, Proto: 60, Data: link(0) + "data"}
	s := plainBytes(p)
	parsed(t, "60 in a piece", s, p)
	for n := range 8 {
		refused(t, n, with(s, 4, 0, byte(n)), api.ErrShort)
	}
	parsed(t, "a fragment's head alone", with(s, 4, 0, 8), api.Ip6{Frag: true, At: 16, Proto: 60})
	parsed(t, "another byte beside next", with(s, 41, 255), p)
	for bits := range 8 {
		q := p
		q.Data = "eight by"
		q.More = bits&1 != 0
		x := with(plainBytes(q), 43, byte(16+bits))
		parsed(t, []any{"bits", bits}, x, q)
	}
	inner := api.Ip6{Frag: true, Proto: 44, Data: "12345678"}
	parsed(t, "44 in a piece", plainBytes(inner), inner)
}

// P4.2: what pieces may not be is a fault of form, the too long ones too.
func TestParsedPieces(t *testing.T) {
	for name, x := range map[string]struct {
		p    api.Ip6
		want api.Errno
	}{
		"more of none":                 {api.Ip6{Frag: true, More: true}, api.ErrForm},
		"more of 7":                    {api.Ip6{Frag: true, More: true, Data: "seven b"}, api.ErrForm},
		"more of 8":                    {api.Ip6{Frag: true, More: true, Data: "eight by"}, api.OK},
		"more of 9":                    {api.Ip6{Frag: true, More: true, Data: "nine byte"}, api.ErrForm},
		"no more of 9":                 {api.Ip6{Frag: true, Data: "nine byte"}, api.OK},
		"no more of none":              {api.Ip6{Frag: true}, api.OK},
		"65535":                        {api.Ip6{Frag: true, At: 65528, Data: "seven b"}, api.OK},
		"65536":                        {api.Ip6{Frag: true, At: 65528, Data: "eight by"}, api.ErrForm},
		"65536, more behind":           {api.Ip6{Frag: true, At: 65528, More: true, Data: "eight by"}, api.ErrForm},
		"65528, more behind":           {api.Ip6{Frag: true, At: 65520, More: true, Data: "eight by"}, api.OK},
		"much at once, 65535":          {api.Ip6{Frag: true, At: 1000, Data: strings.Repeat("x", 64535)}, api.OK},
		"much at once, 65536":          {api.Ip6{Frag: true, At: 1000, Data: strings.Repeat("x", 64536)}, api.ErrForm},
		"behind extensions, more of 7": {api.Ip6{Frag: true, More: true, Exts: exts(3), Data: "seven b"}, api.ErrForm},
	} {
		s := plainBytes(x.p)
		for _, behind := range []string{"", "x", "more behind", strings.Repeat("x", 70000)} {
			if x.want != api.OK {
				refused(t, name, s+behind, x.want)
				continue
			}
			parsed(t, name, s+behind, x.p)
		}
	}
}

// P4.3: routes with and without segments left.
func TestRouted(t *testing.T) {
	used, left := api.Ext{Kind: 43, Body: "\x02\x00abcd"}, api.Ext{Kind: 43, Body: "\x00\x01abcd"}
	other := api.Ext{Kind: 60, Body: "\x01\x04abcd"}
	for name, x := range map[string]struct {
		exts []api.Ext
		is   bool
	}{
		"none":                       {nil, false},
		"empty":                      {[]api.Ext{}, false},
		"used up":                    {[]api.Ext{used}, false},
		"left":                       {[]api.Ext{left}, true},
		"255 left":                   {[]api.Ext{{Kind: 43, Body: "\x00\xffabcd"}}, true},
		"hop by hop is no route":     {[]api.Ext{{Kind: 0, Body: "\x01\x04abcd"}}, false},
		"destination is no route":    {[]api.Ext{other}, false},
		"44 is no route":             {[]api.Ext{{Kind: 44, Body: "\x01\x04abcd"}}, false},
		"299 is no route":            {[]api.Ext{{Kind: 256 + 43, Body: "\x01\x04abcd"}}, false},
		"-213 is no route":           {[]api.Ext{{Kind: 43 - 256, Body: "\x01\x04abcd"}}, false},
		"behind others":              {[]api.Ext{other, used, left}, true},
		"ahead of others":            {[]api.Ext{left, used, other}, true},
		"twice used up":              {[]api.Ext{used, other, used}, false},
		"a Body without bytes":       {[]api.Ext{{Kind: 43}}, false},
		"a Body of a byte":           {[]api.Ext{{Kind: 43, Body: "\x01"}}, false},
		"a Body of two":              {[]api.Ext{{Kind: 43, Body: "\x00\x01"}}, true},
		"a Body of two, used up":     {[]api.Ext{{Kind: 43, Body: "\x01\x00"}}, false},
		"the third byte says naught": {[]api.Ext{{Kind: 43, Body: "\x01\x00\x01\x01\x01\x01"}}, false},
		"no Body, then one left":     {[]api.Ext{{Kind: 43}, left}, true},
		"far behind":                 {append(exts(1<<16), left), true},
		"a lot, but none":            {exts(1 << 16), false},
	} {
		if is := Routed(x.exts); is != x.is {
			t.Errorf("%s: %v", name, is)
		}
	}
}

// somePacket is a packet of chance that has bytes.
func somePacket(chance *rand.Rand) api.Ip6 {
	text := func(n int) string {
		b := make([]byte, n)
		chance.Read(b)
		return string(b)
	}
	p := api.Ip6{Class: chance.Intn(256), Flow: chance.Intn(1 << 20), Hop: chance.Intn(256)}
	chance.Read(p.From[:])
	chance.Read(p.To[:])
	for i := range chance.Intn(9) {
		kind := []int{60, 43, 0}[chance.Intn(3)]
		if i > 0 && kind == 0 {
			kind = 60
		}
		p.Exts = append(p.Exts, api.Ext{Kind: kind, Body: text(6 + 8*chance.Intn(4))})
	}
	if chance.Intn(2) == 0 {
		p.Proto = []int{6, 17, 58, 59, 255}[chance.Intn(5)]
		p.Data = text(chance.Intn(50))
		return p
	}
	p.Frag, p.Id, p.At, p.More, p.Proto = true, chance.Uint32(), 8*chance.Intn(8000), chance.Intn(2) == 0, chance.Intn(256)
	p.Data = text(8 * (1 + chance.Intn(6)))
	if !p.More {
		p.Data = p.Data[:chance.Intn(len(p.Data)+1)]
	}
	return p
}

// P4.4: what has bytes is parsed from them, whatever stands behind, packets among that.
func TestParsedBack(t *testing.T) {
	chance := rand.New(rand.NewSource(3))
	for range 5000 {
		p := somePacket(chance)
		s, e := Bytes(p)
		if e != nil || s != plainBytes(p) {
			t.Fatalf("%v: %x, %v", p, s, e)
		}
		for _, behind := range []string{"", "\x00", s, string(bytes.Repeat([]byte{255}, 70))} {
			parsed(t, p, s+behind, p)
		}
	}
}

// P4.3: packets of chance, of which many have no bytes.
func TestBytesOfWhatever(t *testing.T) {
	chance := rand.New(rand.NewSource(5))
	seen := map[api.Errno]int{}
	for range 30000 {
		p := somePacket(chance)
		for range chance.Intn(3) {
			spoil(&p, chance)
		}
		want := plainCode(p)
		seen[want]++
		asks(t, fmt.Sprintf("%.300v", p), p, want)
	}
	for _, c := range []api.Errno{api.OK, api.ErrRange, api.ErrKind, api.ErrForm, api.ErrLong} {
		if seen[c] < 100 {
			t.Errorf("only %d of code %d", seen[c], c)
		}
	}
}

// spoil changes something of a packet.
func spoil(p *api.Ip6, chance *rand.Rand) {
	parts := []*int{&p.Class, &p.Flow, &p.Hop, &p.At, &p.Proto}
	switch n := chance.Intn(13); n {
	case 0, 1, 2, 3, 4:
		*parts[n] += chance.Intn(1<<21) - 1<<20
	case 5:
		p.Exts = append(p.Exts, exts(1+chance.Intn(4))...)
	case 6:
		p.Exts = append(p.Exts, api.Ext{Kind: chance.Intn(64), Body: strings.Repeat("b", chance.Intn(20))})
	case 7:
		p.Data += strings.Repeat("d", chance.Intn(2000))
	case 8:
		p.At = 65000 + 8*chance.Intn(70)
	case 9:
		p.Frag = !p.Frag
	case 10:
		p.More = !p.More
	case 11:
		p.Proto = []int{0, 43, 44, 60}[chance.Intn(4)]
	default:
		p.Data = strings.Repeat("d", 65400+chance.Intn(150))
	}
}

// R4: what is handed in stays, its spare room too, and what is answered shares nothing with it, nor with another answer.
func TestNewMemory(t *testing.T) {
	room := append(piece().Exts, exts(5)...)
	kept := append([]api.Ext(nil), room...)
	p := piece()
	p.Exts = room[:3]
	s, _ := Bytes(p)
	Routed(p.Exts)
	if !reflect.DeepEqual(room, kept) {
		t.Errorf("changed: %v", room)
	}
	a, _ := Parse(s)
	b, _ := Parse(s)
	a.Exts[0], a.Exts[2].Kind = api.Ext{}, 0
	_ = append(a.Exts, exts(2)...)
	if !same(b, piece()) {
		t.Errorf("shared: %v", b)
	}
	l, _, _, _ := Chain(0, s[40:])
	m, _, _, _ := Chain(0, s[40:])
	l[1] = api.Ext{}
	if !sameExts(m, piece().Exts) {
		t.Errorf("shared: %v", m)
	}
}

// R3: a call's answer hangs on nothing that an earlier one left, nor on what was done to its fault.
func TestFaultsAreNew(t *testing.T) {
	calls := map[string]struct {
		do   func() error
		code api.Errno
	}{
		"Parse, short": {func() error { _, e := Parse(""); return e }, api.ErrShort},
		"Parse, chain": {func() error { _, e := Parse(with(exampleBytes, 6, 60)); return e }, api.ErrShort},
		"Bytes":        {func() error { _, e := Bytes(api.Ip6{}); return e }, api.ErrKind},
		"Chain":        {func() error { _, _, _, e := Chain(60, "\x06\x00abcde"); return e }, api.ErrShort},
	}
	for name, x := range calls {
		fails(t, name, x.do(), x.code)
		*num.Only(x.do()) = num.Fault{Code: api.ErrWord, At: 9}
		fails(t, name+", again", x.do(), x.code)
	}
}

// FuzzParse is P4.2, and P4.4 the other way about, of whatever text.
func FuzzParse(f *testing.F) {
	f.Add("")
	f.Add(exampleBytes)
	f.Add(pieceBytes)
	f.Add(plainBytes(api.Ip6{Frag: true, At: 65528, Data: "eight by"}) + "behind")
	f.Add(plainBytes(api.Ip6{Exts: exts(9)}))
	f.Add("\x44" + strings.Repeat("\x00", 50))
	f.Fuzz(func(t *testing.T, s string) {
		p, e := Parse(s)
		if want, code := plainParse(s); !same(p, want) || num.Code(e) != code {
			t.Errorf("%x: %v, %v, not %v, %d", s, p, e, want, code)
		}
		if e != nil {
			return
		}
		// Not held against s: bits that are nobody's may be set there.
		b, e := Bytes(p)
		if e != nil || b != plainBytes(p) || b[:40] != s[:40] {
			t.Errorf("%x: %x, %v", s, b, e)
		}
		parsed(t, s, b, p)
	})
}

// FuzzChain is P4.1, of whatever next and data.
func FuzzChain(f *testing.F) {
	f.Add(60, "\x11\x00\x01\x04\x00\x00\x00\x00hi")
	f.Add(0, link(60)+link(0))
	f.Add(60, strings.Repeat(link(60), 9))
	f.Add(-1, "")
	f.Fuzz(func(t *testing.T, next int, s string) {
		l, proto, rest, e := Chain(next, s)
		wl, wproto, wrest, code := plainChain(next, s)
		if num.Code(e) != code || !sameExts(l, wl) || proto != wproto || rest != wrest {
			t.Errorf("%d, %x: %v, %d, %x, %v", next, s, l, proto, rest, e)
		}
	})
}
