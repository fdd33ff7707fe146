package ip4

import (
	"bytes"
	"errors"
	"math"
	"math/rand"
	"strings"
	"testing"

	"interpreter/api"
	"interpreter/num"
)

// example is the chapter's packet, and exampleBytes its bytes.
func example() api.Ip4 {
	return api.Ip4{Id: 1, Ttl: 64, Proto: 17, From: api.V4{10, 0, 0, 1}, To: api.V4{10, 0, 0, 2}, Data: "hi"}
}

const exampleBytes = "\x45\x00\x00\x16\x00\x01\x00\x00\x40\x11\x66\xd4\x0a\x00\x00\x01\x0a\x00\x00\x02hi"

// piece is a packet in which every part says something.
func piece() api.Ip4 {
	return api.Ip4{Tos: 0xa5, Id: 0x1234, Ttl: 9, Proto: 6, At: 0x1238, DF: true, More: true, From: api.V4{192, 0, 2, 1}, To: api.V4{198, 51, 100, 7}, Options: "\x01\x02\x03\x04\x05\x06\x07\x08", Data: "sixteen bytes .."}
}

// fails asks that an error is a fault of that code at 0, or none.
func fails(t *testing.T, what any, e error, code api.Errno) {
	t.Helper()
	if code == api.OK {
		if e != nil {
			t.Errorf("%v: %v, not none", what, e)
		}
		return
	}
	var f *num.Fault
	if !errors.As(e, &f) || f == nil || *f != (num.Fault{Code: code}) {
		t.Errorf("%v: %v, not fault %d at 0", what, e, code)
	}
}

// plainSum is a head's sum, as RFC 1071 says it; a right one's is 0.
func plainSum(head []byte) int {
	n := 0
	for i := 0; i < len(head); i += 2 {
		n += int(head[i])<<8 + int(head[i+1])
		n = n>>16 + n&65535
	}
	return 65535 - n
}

// plainCode is what Bytes has to refuse a packet by, as the chapter says it.
func plainCode(p api.Ip4) api.Errno {
	for x, most := range map[*int]int{&p.Tos: 255, &p.Ttl: 255, &p.Proto: 255, &p.Id: 65535, &p.At: 65528} {
		if *x < 0 || *x > most {
			return api.ErrRange
		}
	}
	if p.At/8*8 != p.At {
		return api.ErrRange
	}
	if n := len(p.Options); n > 40 || n/4*4 != n {
		return api.ErrForm
	}
	if n := len(p.Data); p.More && (n == 0 || n/8*8 != n) {
		return api.ErrForm
	}
	if 20+len(p.Options)+p.At+len(p.Data) > 65535 {
		return api.ErrLong
	}
	return api.OK
}

// plainBytes is the bytes of a packet that may be, as the chapter says them.
func plainBytes(p api.Ip4) string {
	words := 5 + len(p.Options)/4
	all := 4*words + len(p.Data)
	place := p.At / 8
	if p.DF {
		place += 16384
	}
	if p.More {
		place += 8192
	}
	b := []byte{byte(64 + words), byte(p.Tos), byte(all / 256), byte(all % 256), byte(p.Id / 256), byte(p.Id % 256), byte(place / 256), byte(place % 256), byte(p.Ttl), byte(p.Proto), 0, 0}
	b = append(append(append(b, p.From[:]...), p.To[:]...), p.Options...)
	s := plainSum(b)
	b[10], b[11] = byte(s/256), byte(s%256)
	return string(b) + p.Data
}

// plainParse is what Parse has to answer, as the chapter says it.
func plainParse(s string) (api.Ip4, api.Errno) {
	if len(s) < 20 {
		return api.Ip4{}, api.ErrShort
	}
	if s[0] < 64+5 || s[0] > 64+15 {
		return api.Ip4{}, api.ErrForm
	}
	n := 4 * int(s[0]-64)
	if len(s) < n {
		return api.Ip4{}, api.ErrShort
	}
	if plainSum([]byte(s[:n])) != 0 {
		return api.Ip4{}, api.ErrSum
	}
	all := 256*int(s[2]) + int(s[3])
	if all < n {
		return api.Ip4{}, api.ErrForm
	}
	if len(s) < all {
		return api.Ip4{}, api.ErrShort
	}
	place := 256*int(s[6]) + int(s[7])
	p := api.Ip4{
		Tos: int(s[1]), Id: 256*int(s[4]) + int(s[5]), Ttl: int(s[8]), Proto: int(s[9]),
		At: place % 8192 * 8, More: place/8192%2 == 1, DF: place/16384%2 == 1,
		From: api.V4{s[12], s[13], s[14], s[15]}, To: api.V4{s[16], s[17], s[18], s[19]},
		Options: s[20:n], Data: s[n:all],
	}
	if place >= 32768 || plainCode(p) != api.OK {
		return api.Ip4{}, api.ErrForm
	}
	return p, api.OK
}

// plainRouted is what Routed has to answer, as the chapter says it.
func plainRouted(s string) (bool, api.Errno) {
	is := false
	for at := 0; at < len(s); {
		kind := s[at]
		if kind == 0 {
			break
		}
		if kind == 1 {
			at++
			continue
		}
		if at+1 == len(s) || s[at+1] < 2 || at+int(s[at+1]) > len(s) {
			return false, api.ErrForm
		}
		if kind == 131 || kind == 137 {
			if s[at+1] < 3 {
				return false, api.ErrForm
			}
			is = is || s[at+2] <= s[at+1]
		}
		at += int(s[at+1])
	}
	return is, api.OK
}

// mended is a text with the sum of the head of n bytes put right.
func mended(s string, n int) string {
	b := []byte(s)
	b[10], b[11] = 0, 0
	x := plainSum(b[:n])
	b[10], b[11] = byte(x>>8), byte(x)
	return string(b)
}

// with is a text with some bytes put at a place.
func with(s string, at int, put ...byte) string {
	b := []byte(s)
	copy(b[at:], put)
	return string(b)
}

// P3.1: the chapter's example, and a packet of which every part says something, byte by byte.
func TestBytes(t *testing.T) {
	s, e := Bytes(example())
	if e != nil || s != exampleBytes {
		t.Errorf("the chapter's: %x, %v", s, e)
	}
	s, e = Bytes(piece())
	want := "\x47\xa5\x00\x2c\x12\x34\x62\x47\x09\x06\x00\x00\xc0\x00\x02\x01\xc6\x33\x64\x07\x01\x02\x03\x04\x05\x06\x07\x08sixteen bytes .."
	if e != nil || s != mended(want, 28) {
		t.Errorf("the piece: %x, %v", s, e)
	}
	s, e = Bytes(api.Ip4{})
	if want := "\x45\x00\x00\x14" + strings.Repeat("\x00", 6) + "\xba\xeb" + strings.Repeat("\x00", 8); e != nil || s != want {
		t.Errorf("of zero values: %x, %v", s, e)
	}
}

// P3.1: DF and More are a bit each, beside the place.
func TestPlaceAndBits(t *testing.T) {
	for _, x := range []struct {
		at       int
		df, more bool
		want     string
	}{
		{0, false, false, "\x00\x00"},
		{0, true, false, "\x40\x00"},
		{0, false, true, "\x20\x00"},
		{0, true, true, "\x60\x00"},
		{8, false, false, "\x00\x01"},
		{2048, false, true, "\x21\x00"},
		{65496, true, true, "\x7f\xfb"},
	} {
		p := api.Ip4{At: x.at, DF: x.df, More: x.more, Data: "eight by"}
		s, e := Bytes(p)
		if e != nil || s[6:8] != x.want {
			t.Errorf("%v: %x, %v", x, s, e)
			continue
		}
		if q, e := Parse(s); e != nil || q != p {
			t.Errorf("%v: %v, %v", x, q, e)
		}
	}
}

// P3.1: each number at its bounds and one beyond, and an At that is no multiple of 8.
func TestBounds(t *testing.T) {
	for name, x := range map[string]struct {
		part func(p *api.Ip4) *int
		most int
	}{
		"Tos":   {func(p *api.Ip4) *int { return &p.Tos }, 255},
		"Ttl":   {func(p *api.Ip4) *int { return &p.Ttl }, 255},
		"Proto": {func(p *api.Ip4) *int { return &p.Proto }, 255},
		"Id":    {func(p *api.Ip4) *int { return &p.Id }, 65535},
	} {
		for _, n := range []int{0, 1, x.most - 1, x.most} {
			p := piece()
			*x.part(&p) = n
			s, e := Bytes(p)
			if e != nil || s != plainBytes(p) {
				t.Errorf("%s %d: %x, %v", name, n, s, e)
			}
			if q, e := Parse(s); e != nil || q != p {
				t.Errorf("%s %d: %v, %v", name, n, q, e)
			}
		}
		for _, n := range []int{-1, x.most + 1, -256, -65536, 65536, 1 << 32, math.MaxInt, math.MinInt} {
			p := piece()
			*x.part(&p) = n
			s, e := Bytes(p)
			fails(t, name, e, api.ErrRange)
			if s != "" {
				t.Errorf("%s %d: %x beside an error", name, n, s)
			}
		}
	}
	for at, want := range map[int]api.Errno{
		0: 0, 8: 0, 16: 0, 65496: 0, 65504: 0, 65512: 0,
		65520: api.ErrLong, 65528: api.ErrLong,
		65536: api.ErrRange, 65529: api.ErrRange, 131072: api.ErrRange, -8: api.ErrRange, -1: api.ErrRange,
		1: api.ErrRange, 2: api.ErrRange, 4: api.ErrRange, 7: api.ErrRange, 9: api.ErrRange, 12: api.ErrRange, 65535: api.ErrRange, 65527: api.ErrRange,
		math.MaxInt: api.ErrRange, math.MaxInt - 7: api.ErrRange, math.MinInt: api.ErrRange,
	} {
		p := example()
		p.At = at
		s, e := Bytes(p)
		fails(t, at, e, want)
		if want != api.OK && s != "" {
			t.Errorf("At %d: %x beside an error", at, s)
		}
	}
}

// P3.1: options of every length to beyond the most.
func TestOptionLengths(t *testing.T) {
	for n := range 70 {
		p := example()
		p.Options = strings.Repeat("\x07", n)
		want := api.ErrForm
		if n%4 == 0 && n <= 40 {
			want = api.OK
		}
		s, e := Bytes(p)
		fails(t, n, e, want)
		if want != api.OK {
			if s != "" {
				t.Errorf("%d: %x beside an error", n, s)
			}
			continue
		}
		if s != plainBytes(p) || len(s) != 22+n || s[0] != byte(64+5+n/4) {
			t.Errorf("%d: %x", n, s)
		}
		if q, e := Parse(s); e != nil || q != p {
			t.Errorf("%d: %v, %v", n, q, e)
		}
	}
}

// P3.1: Data of a piece with more behind it are a multiple of 8 and not none; those of another packet are of any length.
func TestDataOfPieces(t *testing.T) {
	for n := range 34 {
		for _, at := range []int{0, 8} {
			p := api.Ip4{At: at, More: true, Data: strings.Repeat("d", n)}
			want := api.ErrForm
			if n > 0 && n%8 == 0 {
				want = api.OK
			}
			s, e := Bytes(p)
			fails(t, n, e, want)
			if (s == "") != (want != api.OK) {
				t.Errorf("%d: %x, %v", n, s, e)
			}
			p.More = false
			s, e = Bytes(p)
			if e != nil || s != plainBytes(p) {
				t.Errorf("%d, no more: %x, %v", n, s, e)
			}
		}
	}
}

// P3.1: head, At and Data are together at most 65535 bytes.
func TestLongest(t *testing.T) {
	for _, options := range []int{0, 4, 40} {
		for _, at := range []int{0, 8, 32768, 65488} {
			room := 65535 - 20 - options - at
			if room < 0 {
				continue
			}
			p := api.Ip4{At: at, Options: strings.Repeat("\x01", options), Data: strings.Repeat("x", room)}
			s, e := Bytes(p)
			if e != nil || s != plainBytes(p) {
				t.Errorf("%d, %d: %d bytes, %v", options, at, len(s), e)
			}
			if q, e := Parse(s); e != nil || q != p {
				t.Errorf("%d, %d: not parsed: %v", options, at, e)
			}
			for _, n := range []int{1, 2, 65536, 1 << 17} {
				p.Data = strings.Repeat("x", room+n)
				s, e := Bytes(p)
				fails(t, []int{options, at, n}, e, api.ErrLong)
				if s != "" {
					t.Errorf("%d, %d: %d bytes beside an error", options, at, len(s))
				}
			}
		}
	}
	p := api.Ip4{More: true, Data: strings.Repeat("x", 65512)}
	s, e := Bytes(p)
	if fails(t, "the longest first piece", e, api.OK); len(s) != 65532 {
		t.Errorf("%d bytes", len(s))
	}
	p.Data += "eight by"
	_, e = Bytes(p)
	fails(t, "a longer one", e, api.ErrLong)
}

// P3.1 and R2: of several errors the range's comes first, then the form's, then the length's.
func TestWhichErrorOfBytes(t *testing.T) {
	long := strings.Repeat("x", 65536+3)
	for name, x := range map[string]struct {
		p    api.Ip4
		want api.Errno
	}{
		"range, form of options, long":    {api.Ip4{Tos: -1, Options: "1", Data: long}, api.ErrRange},
		"range of At, form of data, long": {api.Ip4{At: 65532, More: true, Data: long}, api.ErrRange},
		"range and long":                  {api.Ip4{Proto: 256, Data: long}, api.ErrRange},
		"range and form of options":       {api.Ip4{Id: 65536, Options: "1"}, api.ErrRange},
		"range and form of data":          {api.Ip4{Ttl: 256, More: true}, api.ErrRange},
		"form of options and long":        {api.Ip4{Options: "123", Data: long}, api.ErrForm},
		"options alone too long":          {api.Ip4{Options: long + "x"}, api.ErrForm},
		"form of data and long":           {api.Ip4{More: true, Data: long}, api.ErrForm},
		"no data, and an At too long":     {api.Ip4{At: 65528, More: true}, api.ErrForm},
		"long alone":                      {api.Ip4{Data: long}, api.ErrLong},
		"an At too long alone":            {api.Ip4{At: 65520}, api.ErrLong},
	} {
		s, e := Bytes(x.p)
		fails(t, name, e, x.want)
		if s != "" {
			t.Errorf("%s: %d bytes beside an error", name, len(s))
		}
	}
}

// refused asks that Parse refuses a text by that code, with no packet beside it.
func refused(t *testing.T, what any, s string, code api.Errno) {
	t.Helper()
	p, e := Parse(s)
	fails(t, what, e, code)
	if p != (api.Ip4{}) {
		t.Errorf("%v: %v beside an error", what, p)
	}
}

// P3.2: the chapter's examples, and each part of a packet.
func TestParse(t *testing.T) {
	if p, e := Parse(exampleBytes); e != nil || p != example() {
		t.Errorf("the chapter's: %v, %v", p, e)
	}
	refused(t, "19 bytes", exampleBytes[:19], api.ErrShort)
	refused(t, "the last byte gone", exampleBytes[:21], api.ErrShort)
	if p, e := Parse(plainBytes(piece())); e != nil || p != piece() {
		t.Errorf("the piece: %v, %v", p, e)
	}
}

// P3.2: a text that ends anywhere ahead of a packet's end is too short, whatever part that is in.
func TestShort(t *testing.T) {
	for _, p := range []api.Ip4{example(), piece(), {}} {
		s := plainBytes(p)
		for n := range len(s) {
			refused(t, n, s[:n], api.ErrShort)
		}
	}
	refused(t, "short ahead of the form", strings.Repeat("\x00", 19), api.ErrShort)
	refused(t, "short head ahead of the sum", "\x4f"+strings.Repeat("\x00", 58), api.ErrShort)
	refused(t, "long enough, then the sum", "\x4f"+strings.Repeat("\x00", 59), api.ErrSum)
	refused(t, "short ahead of the bit", mended(with(exampleBytes, 6, 0x80), 20)[:21], api.ErrShort)
	refused(t, "short ahead of what may not be", mended(with(exampleBytes, 6, 0x20), 20)[:21], api.ErrShort)
	refused(t, "the sum ahead of short", with(exampleBytes, 2, 0xff), api.ErrSum)
}

// P3.2: the first byte is 64 and from 5 to 15.
func TestFirstByte(t *testing.T) {
	p := piece()
	p.More, p.Options, p.Data = false, "", strings.Repeat("\x01", 100)
	for b := range 256 {
		s := with(plainBytes(p), 0, byte(b))
		if b < 64+5 || b > 64+15 {
			refused(t, b, s, api.ErrForm)
			continue
		}
		n := 4 * (b - 64)
		if b != 64+5 {
			refused(t, b, with(s, 10, s[10]^1), api.ErrSum)
		}
		q, e := Parse(mended(s, n))
		if e != nil || len(q.Options) != n-20 || len(q.Data) != 120-n {
			t.Errorf("%d: %v, %v", b, q, e)
		}
	}
	refused(t, "the form ahead of the sum", strings.Repeat("\x44", 20), api.ErrForm)
	refused(t, "the form ahead of a short head", "\x6f"+strings.Repeat("\x00", 19), api.ErrForm)
}

// P3.2: the number of all bytes is at least the head's; what is behind does not count.
func TestAllBytes(t *testing.T) {
	s := plainBytes(piece())
	for all := range len(s) + 3 {
		x := mended(with(s, 2, byte(all>>8), byte(all)), 28)
		data := all - 28
		switch {
		case all < 28:
			refused(t, all, x, api.ErrForm)
		case all > len(s):
			refused(t, all, x, api.ErrShort)
		case data == 0 || data%8 != 0:
			refused(t, all, x, api.ErrForm)
		default:
			want := piece()
			want.Data = want.Data[:data]
			if p, e := Parse(x); e != nil || p != want {
				t.Errorf("%d: %v, %v", all, p, e)
			}
		}
	}
	refused(t, "the sum ahead of too few bytes in all", with(s, 2, 0, 0), api.ErrSum)
}

// P3.2: the bit beside DF may not be set, with any other bits.
func TestBitBesideDF(t *testing.T) {
	for bits := range 8 {
		p := api.Ip4{At: 24, Id: 7, DF: bits&2 != 0, More: bits&1 != 0, Data: "eight by"}
		s := plainBytes(p)
		s = mended(with(s, 6, byte(bits<<5)), 20)
		if bits&4 != 0 {
			refused(t, bits, s, api.ErrForm)
			continue
		}
		if q, e := Parse(s); e != nil || q != p {
			t.Errorf("%d: %v, %v", bits, q, e)
		}
	}
	refused(t, "the sum ahead of the bit", with(exampleBytes, 6, 0x80), api.ErrSum)
}

// P3.2: a packet that may not be is a fault of form, the too long one too.
func TestParsedMayBe(t *testing.T) {
	for name, x := range map[string]struct {
		p    api.Ip4
		want api.Errno
	}{
		"more of none":         {api.Ip4{More: true}, api.ErrForm},
		"more of 7":            {api.Ip4{More: true, Data: "seven b"}, api.ErrForm},
		"more of 8":            {api.Ip4{More: true, Data: "eight by"}, api.OK},
		"more of 9":            {api.Ip4{More: true, Data: "nine byte"}, api.ErrForm},
		"65535 in all":         {api.Ip4{At: 65504, Data: "eleven byte"}, api.OK},
		"65536 in all":         {api.Ip4{At: 65504, Data: "twelve bytes"}, api.ErrForm},
		"65535, with options":  {api.Ip4{At: 65504, Options: "\x01\x01\x01\x01", Data: "seven b"}, api.OK},
		"65536, with options":  {api.Ip4{At: 65504, Options: "\x01\x01\x01\x01", Data: "eight by"}, api.ErrForm},
		"the last At but none": {api.Ip4{At: 65512}, api.OK},
		"an At too far":        {api.Ip4{At: 65520}, api.ErrForm},
		"the greatest At":      {api.Ip4{At: 65528, Data: "x"}, api.ErrForm},
	} {
		s := plainBytes(x.p)
		if x.want != api.OK {
			refused(t, name, s, x.want)
			refused(t, name+", more behind", s+"more behind", x.want)
			continue
		}
		if p, e := Parse(s); e != nil || p != x.p {
			t.Errorf("%s: %v, %v", name, p, e)
		}
	}
}

// P3.2: whatever the sum is, only those are taken by which the head is right: one, and 65535 beside 0.
func TestSums(t *testing.T) {
	for id := range 65536 {
		p := example()
		p.Id = id
		s := plainBytes(p)
		if q, e := Parse(s); e != nil || q != p {
			t.Fatalf("%d: %v, %v", id, q, e)
		}
		if got, e := Bytes(p); e != nil || got != s {
			t.Fatalf("%d: %x, %v", id, got, e)
		}
		if s[10:12] == "\x00\x00" {
			if q, e := Parse(with(s, 10, 255, 255)); e != nil || q != p {
				t.Fatalf("65535 for 0: %v, %v", q, e)
			}
		}
	}
	s := plainBytes(example())
	for x := range 65536 {
		other := with(s, 10, byte(x>>8), byte(x))
		if other == s {
			continue
		}
		if _, e := Parse(other); num.Code(e) != api.ErrSum {
			t.Fatalf("sum %04x: %v", x, e)
		}
	}
}

// P3.3: the chapter's examples and what it names.
func TestRouted(t *testing.T) {
	long := "\x44\xff" + strings.Repeat("\x83", 253)
	for name, x := range map[string]struct {
		options string
		is      bool
		code    api.Errno
	}{
		"none":                                {"", false, 0},
		"the chapter's, used up":              {"\x01\x83\x03\x04", false, 0},
		"the chapter's, not used up":          {"\x83\x07\x04\x00\x00\x00\x00", true, 0},
		"the chapter's, a length of 1":        {"\x07\x01", false, api.ErrForm},
		"singles":                             {"\x01\x01\x01\x01\x01", false, 0},
		"an end":                              {"\x00", false, 0},
		"what is behind an end":               {"\x00\x83\x03\x01", false, 0},
		"what is wrong behind an end":         {"\x01\x00\x07", false, 0},
		"a route, an end, what is wrong":      {"\x83\x03\x03\x00\x07\x01", true, 0},
		"another option":                      {"\x07\x04\x04\x00", false, 0},
		"another option of 2":                 {"\x94\x02", false, 0},
		"another one with a 0 in it":          {"\x07\x04\x00\x00\x83\x03\x03", true, 0},
		"no length":                           {"\x07", false, api.ErrForm},
		"no length of a route":                {"\x83", false, api.ErrForm},
		"no length of the strict route":       {"\x89", false, api.ErrForm},
		"no length behind others":             {"\x01\x07\x02\x44", false, api.ErrForm},
		"a length of 0":                       {"\x07\x00\x00\x00", false, api.ErrForm},
		"a length of 1":                       {"\x07\x01\x00\x00", false, api.ErrForm},
		"to the end":                          {"\x07\x04aa", false, 0},
		"beyond the end by one":               {"\x07\x05aa", false, api.ErrForm},
		"beyond the end by much":              {"\x07\xffaa", false, api.ErrForm},
		"the longest option":                  {long, false, 0},
		"the longest but one byte":            {long[:254], false, api.ErrForm},
		"behind the longest":                  {long + "\x83\x03\x03", true, 0},
		"a loose route of 2":                  {"\x83\x02", false, api.ErrForm},
		"a loose route of 2, more behind":     {"\x83\x02\x01\x01", false, api.ErrForm},
		"a strict route of 2":                 {"\x89\x02\x01\x01", false, api.ErrForm},
		"a route of 1":                        {"\x83\x01\x01\x01", false, api.ErrForm},
		"a route of 0":                        {"\x89\x00\x01\x01", false, api.ErrForm},
		"a route beyond the end":              {"\x83\x08\x04aaaa", false, api.ErrForm},
		"a route of 3 of which 2 are there":   {"\x83\x03", false, api.ErrForm},
		"a loose route of 3, third 2":         {"\x83\x03\x02", true, 0},
		"a loose route of 3, third 3":         {"\x83\x03\x03", true, 0},
		"a loose route of 3, third 4":         {"\x83\x03\x04", false, 0},
		"a loose route, third 0":              {"\x83\x03\x00", true, 0},
		"a loose route, third 255":            {"\x83\x03\xff", false, 0},
		"a strict route, third its length":    {"\x89\x0b\x0baaaabbbb", true, 0},
		"a strict route, third one beyond":    {"\x89\x0b\x0caaaabbbb", false, 0},
		"130, 132, 136, 138 and 3, 9":         {"\x82\x03\x03\x84\x03\x03\x88\x03\x03\x8a\x03\x03\x03\x03\x03\x09\x03\x03", false, 0},
		"record route":                        {"\x07\x07\x04\x00\x00\x00\x00", false, 0},
		"a route in another one's bytes":      {"\x44\x05\x83\x03\x03", false, 0},
		"used up and not used up":             {"\x83\x03\x04\x89\x03\x03", true, 0},
		"not used up and used up":             {"\x89\x03\x03\x83\x03\x04", true, 0},
		"a route, then what has no length":    {"\x83\x03\x03\x44", false, api.ErrForm},
		"a route, then what reaches too far":  {"\x83\x03\x01\x44\x09", false, api.ErrForm},
		"a route, then a route that is short": {"\x83\x03\x01\x89\x02", false, api.ErrForm},
	} {
		is, e := Routed(x.options)
		fails(t, name, e, x.code)
		if is != x.is {
			t.Errorf("%s: %v", name, is)
		}
	}
}

// P3.3: every text of up to five of the bytes that matter.
func TestRoutedOfFew(t *testing.T) {
	few := "\x00\x01\x02\x03\x04\x83\x89\xff"
	var try func(s string, n int)
	try = func(s string, n int) {
		is, e := Routed(s)
		if want, code := plainRouted(s); is != want || num.Code(e) != code {
			t.Errorf("%x: %v, %v, not %v, %d", s, is, e, want, code)
		}
		for i := range len(few) {
			if n > 0 {
				try(s+few[i:i+1], n-1)
			}
		}
	}
	try("", 5)
}

// somePacket is a packet of chance that may be.
func somePacket(chance *rand.Rand) api.Ip4 {
	p := api.Ip4{Tos: chance.Intn(256), Id: chance.Intn(65536), Ttl: chance.Intn(256), Proto: chance.Intn(256), At: 8 * chance.Intn(8000), DF: chance.Intn(2) == 0, More: chance.Intn(2) == 0}
	chance.Read(p.From[:])
	chance.Read(p.To[:])
	options := make([]byte, 4*chance.Intn(11))
	data := make([]byte, 8*(1+chance.Intn(6)))
	chance.Read(options)
	chance.Read(data)
	if !p.More {
		data = data[:chance.Intn(len(data)+1)]
	}
	p.Options, p.Data = string(options), string(data)
	return p
}

// P3.4: what has bytes is parsed from them, whatever stands behind, packets among that.
func TestParsedBack(t *testing.T) {
	chance := rand.New(rand.NewSource(3))
	for range 3000 {
		p := somePacket(chance)
		s, e := Bytes(p)
		if e != nil || s != plainBytes(p) {
			t.Fatalf("%v: %x, %v", p, s, e)
		}
		for _, behind := range []string{"", "\x00", s, string(bytes.Repeat([]byte{255}, 70))} {
			if q, e := Parse(s + behind); e != nil || q != p {
				t.Fatalf("%v, %x behind: %v, %v", p, behind, q, e)
			}
		}
	}
	p := api.Ip4{Data: strings.Repeat("x", 65515)}
	s, _ := Bytes(p)
	if q, e := Parse(s + "behind the longest"); e != nil || q != p {
		t.Errorf("the longest: %v", e)
	}
}

// P3.4: every bit of a head that is turned is told, but the four that say how long it is.
func TestTurnedBits(t *testing.T) {
	chance := rand.New(rand.NewSource(4))
	for i := range 300 {
		p := somePacket(chance)
		if i == 0 {
			p = api.Ip4{}
		}
		s, _ := Bytes(p)
		for bit := range 8 * (20 + len(p.Options)) {
			if bit < 4 {
				continue
			}
			want := api.ErrSum
			if bit < 8 {
				want = api.ErrForm
			}
			q, e := Parse(with(s, bit/8, s[bit/8]^1<<(bit%8)))
			if num.Code(e) != want || q != (api.Ip4{}) {
				t.Fatalf("%x, bit %d: %v, %v", s, bit, q, e)
			}
		}
	}
}

// R3: a call's answer hangs on nothing that an earlier one left, nor on what was done to its fault.
func TestFaultsAreNew(t *testing.T) {
	_, e := Parse("")
	num.Only(e).Code = api.ErrKind
	_, e = Parse("")
	fails(t, "Parse", e, api.ErrShort)
	_, e = Bytes(api.Ip4{At: 4})
	num.Only(e).At = 9
	_, e = Bytes(api.Ip4{At: 4})
	fails(t, "Bytes", e, api.ErrRange)
	_, e = Routed("\x07")
	num.Only(e).At = 9
	_, e = Routed("\x07")
	fails(t, "Routed", e, api.ErrForm)
}

// P3.1 and P3.2: packets of chance, of which many may not be.
func TestBytesOfWhatever(t *testing.T) {
	chance := rand.New(rand.NewSource(5))
	seen := map[api.Errno]int{}
	for range 20000 {
		p := somePacket(chance)
		for range chance.Intn(3) {
			parts := []*int{&p.Tos, &p.Id, &p.Ttl, &p.Proto, &p.At}
			switch n := chance.Intn(8); {
			case n < 5:
				*parts[n] += chance.Intn(1<<17) - 1<<16
			case n == 5:
				p.Options += strings.Repeat("\x01", chance.Intn(30))
			case n == 6:
				p.Data += strings.Repeat("d", chance.Intn(2000))
			default:
				p.At = 65000 + 8*chance.Intn(70)
			}
		}
		want := plainCode(p)
		seen[want]++
		s, e := Bytes(p)
		if num.Code(e) != want || want != api.OK && s != "" || want == api.OK && s != plainBytes(p) {
			t.Fatalf("%v: %x, %v, not %d", p, s, e, want)
		}
	}
	for _, c := range []api.Errno{api.OK, api.ErrRange, api.ErrForm, api.ErrLong} {
		if seen[c] < 100 {
			t.Errorf("only %d of code %d", seen[c], c)
		}
	}
}

// FuzzParse is P3.2, of whatever text; with its sum put right too, so that what is behind that is asked.
func FuzzParse(f *testing.F) {
	f.Add("")
	f.Add(exampleBytes)
	f.Add(plainBytes(piece()))
	f.Add(plainBytes(api.Ip4{At: 65528, Options: "\x83\x03\x03\x00", Data: "eight by"}) + "behind")
	f.Add("\x44" + strings.Repeat("\x00", 30))
	f.Fuzz(func(t *testing.T, s string) {
		texts := []string{s}
		if len(s) >= 20 {
			if n := 4 * int(s[0]%16); n >= 20 && n <= len(s) {
				texts = append(texts, mended(s, n))
			}
		}
		for _, s := range texts {
			p, e := Parse(s)
			if want, code := plainParse(s); p != want || num.Code(e) != code {
				t.Errorf("%x: %v, %v, not %v, %d", s, p, e, want, code)
			}
			if e != nil {
				continue
			}
			// Not of the bytes of s: a sum may be 65535 there where a right one is written as 0.
			if b, e := Bytes(p); e != nil || b[:10]+b[12:] != s[:10]+s[12:len(b)] {
				t.Errorf("%x: %x, %v", s, b, e)
			}
		}
	})
}

// FuzzRouted is P3.3, of whatever options.
func FuzzRouted(f *testing.F) {
	f.Add("")
	f.Add("\x01\x83\x03\x04")
	f.Add("\x83\x07\x04\x00\x00\x00\x00")
	f.Add("\x07\x01")
	f.Fuzz(func(t *testing.T, s string) {
		is, e := Routed(s)
		if want, code := plainRouted(s); is != want || num.Code(e) != code {
			t.Errorf("%x: %v, %v, not %v, %d", s, is, e, want, code)
		}
	})
}
