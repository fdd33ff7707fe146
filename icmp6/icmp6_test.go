package icmp6

import (
	"errors"
	"math"
	"math/rand"
	"strings"
	"testing"

	"interpreter/api"
	"interpreter/num"
)

// exampleBytes is what the chapter's message has for bytes, without a head that is not sent.
const exampleBytes = "\x80\x00\x17\x93\x00\x01\x00\x02hi"

// example is the chapter's message.
func example() api.Msg { return api.Msg{Kind: 128, Rest: 0x00010002, Data: "hi"} }

// full is a message in which every part says something, and its data has an odd number of bytes.
func full() api.Msg { return api.Msg{Kind: 0x12, Code: 0x34, Rest: 0xfedcba98, Data: "data!"} }

// pseudo6 is a head that is summed and not sent; it is for 13 bytes.
const pseudo6 = "\x20\x01\x0d\xb8\x00\x00\x00\x00\x00\x00\x00\x00\x00\x00\x00\x01" +
	"\x20\x01\x0d\xb8\x00\x00\x00\x00\x00\x00\x00\x00\x00\x00\x00\x02" +
	"\x00\x00\x00\x0d\x00\x00\x00\x3a"

// evenHeads are heads that are not sent, of no and of other even numbers of bytes.
func evenHeads() []string {
	return []string{"", "\x00\x00", "\xff\xff", "\x00\x01", "\x80\x00\x00\x00", pseudo6}
}

// oddHeads are heads that are not sent, of odd numbers of bytes.
func oddHeads() []string { return []string{"\x00", "\x01", "\xff", "\x00\x00\x01", pseudo6[:39]} }

// fails asks that an error is a fault of that code at 0, or none.
func fails(t *testing.T, what any, e error, code api.Errno) {
	t.Helper()
	if code == api.OK {
		if e != nil {
			t.Errorf("%#v: %v, not none", what, e)
		}
		return
	}
	var f *num.Fault
	if !errors.As(e, &f) || f == nil || *f != (num.Fault{Code: code}) {
		t.Errorf("%#v: %v, not fault %d at 0", what, e, code)
	}
}

// plainSum is a text's sum, as RFC 1071 says it; a right one's is 0.
func plainSum(s string) int {
	if len(s)%2 == 1 {
		s += "\x00"
	}
	n := 0
	for i := 0; i < len(s); i += 2 {
		n += word(s, i)
		n = n>>16 + n&65535
	}
	return 65535 - n
}

// word is that of the two bytes at a place.
func word(s string, at int) int { return int(s[at])<<8 + int(s[at+1]) }

// plainParse is what Parse has to answer, as the chapter says it.
func plainParse(s, pseudo string) (api.Msg, api.Errno) {
	if len(s) < 8 {
		return api.Msg{}, api.ErrShort
	}
	if plainSum(pseudo+s) != 0 {
		return api.Msg{}, api.ErrSum
	}
	rest := uint32(word(s, 4))*65536 + uint32(word(s, 6))
	return api.Msg{Kind: int(s[0]), Code: int(s[1]), Rest: rest, Data: s[8:]}, api.OK
}

// plainBytes is what Bytes has to answer, as the chapter says it.
func plainBytes(m api.Msg, pseudo string) (string, api.Errno) {
	if m.Kind < 0 || m.Kind > 255 || m.Code < 0 || m.Code > 255 {
		return "", api.ErrRange
	}
	r := m.Rest
	s := string([]byte{byte(m.Kind), byte(m.Code), 0, 0, byte(r >> 24), byte(r >> 16), byte(r >> 8), byte(r)}) + m.Data
	return summed(s, pseudo), api.OK
}

// summed is a text of 8 or more bytes with the sum in its place that is of it and a head that is not sent.
func summed(s, pseudo string) string {
	sum := plainSum(pseudo + with(s, 2, 0, 0))
	return with(s, 2, byte(sum/256), byte(sum%256))
}

// with is a text with some bytes put at a place.
func with(s string, at int, put ...byte) string {
	b := []byte(s)
	copy(b[at:], put)
	return string(b)
}

// turned is a text with one of its bits turned.
func turned(s string, bit int) string { return with(s, bit/8, s[bit/8]^1<<(bit%8)) }

// asks holds Bytes of a message against what it has to answer, and the plain words against the same.
func asks(t *testing.T, what any, m api.Msg, pseudo string, code api.Errno) {
	t.Helper()
	want, c := plainBytes(m, pseudo)
	if c != code {
		t.Errorf("%#v: the chapter says %d, not %d", what, c, code)
	}
	s, e := Bytes(m, pseudo)
	fails(t, what, e, code)
	if s != want {
		t.Errorf("%#v: %.200x, not %.200x", what, s, want)
	}
}

// parsed asks that a text is parsed as that message, or refused by that code with no message beside it.
func parsed(t *testing.T, what any, s, pseudo string, want api.Msg, code api.Errno) {
	t.Helper()
	m, e := Parse(s, pseudo)
	fails(t, what, e, code)
	if m != want {
		t.Errorf("%#v: %#v, not %#v", what, m, want)
	}
}

// back asks that a message has bytes, and is parsed from them with the same head that is not sent, if that has an even length.
func back(t *testing.T, what any, m api.Msg, pseudo string) {
	t.Helper()
	s, e := Bytes(m, pseudo)
	fails(t, what, e, api.OK)
	if len(s) != 8+len(m.Data) {
		t.Errorf("%#v: %d bytes with %d of data", what, len(s), len(m.Data))
	}
	if len(pseudo)%2 == 0 {
		parsed(t, what, s, pseudo, m, api.OK)
	}
}

// echoes asks what Echo answers of a message.
func echoes(t *testing.T, what any, m api.Msg, id int, asks, is bool) {
	t.Helper()
	if i, a, x := Echo(m); i != id || a != asks || x != is {
		t.Errorf("%#v: %d, %v, %v, not %d, %v, %v", what, i, a, x, id, asks, is)
	}
}

// P8.1, P8.2: the chapter's examples.
func TestExamples(t *testing.T) {
	if s, e := Bytes(example(), ""); s != exampleBytes || e != nil {
		t.Errorf("%x, %v", s, e)
	}
	parsed(t, "its bytes", exampleBytes, "", example(), api.OK)
	echoes(t, "it", example(), 1, true, true)
	if m := WithId(example(), 65537); m != example() {
		t.Errorf("%#v", m)
	}
	if !Failure(api.Msg{Kind: 1}) {
		t.Error("1 is no error")
	}
	parsed(t, "7 bytes", exampleBytes[:7], "", api.Msg{}, api.ErrShort)
}

// P8.1: a message in which every part says something, byte by byte, with data of an odd number of bytes, an even one, and none; with a head that is not sent, and without.
func TestEveryPart(t *testing.T) {
	for pseudo, sums := range map[string]map[string]string{
		"":      {"data!": "\x3a\x93", "data": "\x5b\x93", "": "\x34\x56"},
		pseudo6: {"data!": "\xde\xd6", "data": "\xff\xd6", "": "\xd8\x99"},
	} {
		for data, inSum := range sums {
			m := full()
			m.Data = data
			want := "\x12\x34" + inSum + "\xfe\xdc\xba\x98" + data
			if s, e := Bytes(m, pseudo); s != want || e != nil {
				t.Errorf("%x, %v, not %x", s, e, want)
			}
			parsed(t, want, want, pseudo, m, api.OK)
		}
	}
}

// P8.1: texts of fewer than 8 bytes are short, whether their sum is right or not; those of 8 and more are not.
func TestShort(t *testing.T) {
	right := map[bool]int{}
	for n := range 8 {
		for _, s := range []string{exampleBytes, strings.Repeat("\x00", 8), strings.Repeat("\xff", 8), "\x00\x00\xff\xff\x00\x00\x00\x00", "\xff\xff\xff\xff\xff\xff\xff\x00"} {
			for _, pseudo := range append(evenHeads(), oddHeads()...) {
				right[plainSum(pseudo+s[:n]) == 0]++
				parsed(t, []any{n, s, pseudo}, s[:n], pseudo, api.Msg{}, api.ErrShort)
			}
		}
	}
	if right[true] == 0 || right[false] == 0 {
		t.Errorf("texts that are right, and that are not: %v", right)
	}
	for n := 8; n < 40; n++ {
		for _, pseudo := range evenHeads() {
			s := summed((exampleBytes + strings.Repeat("d", 40))[:n], pseudo)
			parsed(t, []any{n, pseudo}, s, pseudo, api.Msg{Kind: 128, Rest: 0x00010002, Data: s[8:]}, api.OK)
			parsed(t, []any{n, pseudo, "wrong"}, with(s, 2, s[2]^0xff), pseudo, api.Msg{}, api.ErrSum)
		}
	}
}

// P8.1: a text of noughts alone is not right by itself, nor behind noughts, of whatever length; behind a head that is right it is.
func TestNoughts(t *testing.T) {
	for n := 8; n < 40; n++ {
		noughts := strings.Repeat("\x00", n)
		for _, pseudo := range []string{"", "\x00", "\x00\x00", strings.Repeat("\x00", 40), "\x00\x01", pseudo6} {
			parsed(t, []any{n, pseudo}, noughts, pseudo, api.Msg{}, api.ErrSum)
		}
		for _, pseudo := range []string{"\xff\xff", "\x00\xff\xff", "\xff\xfe\x00\x01", "\xff\x00\x00\xff\x00"} {
			parsed(t, []any{n, pseudo}, noughts, pseudo, api.Msg{Data: noughts[8:]}, api.OK)
		}
		s := with(noughts, 2, 0xff, 0xff)
		parsed(t, []any{n, "with its sum"}, s, "", api.Msg{Data: s[8:]}, api.OK)
		parsed(t, []any{n, "with its sum, behind noughts"}, s, "\x00\x00", api.Msg{Data: s[8:]}, api.OK)
	}
	bits := strings.Repeat("\xff", 12)
	parsed(t, "all bits", bits, "", api.Msg{Kind: 255, Code: 255, Rest: math.MaxUint32, Data: bits[8:]}, api.OK)
	parsed(t, "all bits, but half a word", bits[:11], "", api.Msg{}, api.ErrSum)
	parsed(t, "all bits, the half of a word before them", bits[:11], "\xff", api.Msg{Kind: 255, Code: 255, Rest: math.MaxUint32, Data: bits[8:11]}, api.OK)
}

// P8.1, P8.3: Kind and Code at their bounds, and beyond.
func TestBounds(t *testing.T) {
	for name, part := range map[string]func(m *api.Msg) *int{
		"Kind": func(m *api.Msg) *int { return &m.Kind },
		"Code": func(m *api.Msg) *int { return &m.Code },
	} {
		for _, m := range []api.Msg{{}, example(), full()} {
			for _, pseudo := range []string{"", pseudo6, pseudo6[:39]} {
				for x := range 256 {
					*part(&m) = x
					asks(t, []any{name, x}, m, pseudo, api.OK)
					back(t, []any{name, x}, m, pseudo)
				}
				for _, x := range []int{-1, 256, -2, -255, -256, 257, 511, 512, 65535, 65536, 1 << 32, -1 << 32, math.MaxInt, math.MinInt} {
					*part(&m) = x
					asks(t, []any{name, x}, m, pseudo, api.ErrRange)
				}
			}
		}
	}
	asks(t, "both below", api.Msg{Kind: -1, Code: -1}, pseudo6, api.ErrRange)
	asks(t, "one below, one beyond", api.Msg{Kind: -1, Code: 256, Rest: 1, Data: "d"}, "", api.ErrRange)
	asks(t, "both beyond", api.Msg{Kind: 256, Code: 256}, "\x01", api.ErrRange)
}

// P8.1, P8.3: Rest of 0, of each bit alone, of all but one, and of all of them.
func TestRest(t *testing.T) {
	rests := []uint32{0, math.MaxUint32, 0x01020304, 0x80000000, 0x7fffffff, 65535, 65536, 0xffff0000}
	for bit := range 32 {
		rests = append(rests, 1<<bit, ^uint32(1<<bit))
	}
	for _, rest := range rests {
		for _, m := range []api.Msg{{}, example(), full()} {
			m.Rest = rest
			for _, pseudo := range append(evenHeads(), oddHeads()...) {
				asks(t, []any{rest, pseudo}, m, pseudo, api.OK)
				back(t, []any{rest, pseudo}, m, pseudo)
			}
		}
	}
}

// P8.1, P8.3: data of no, odd and even numbers of bytes, and more of it than a packet has.
func TestDataLengths(t *testing.T) {
	for _, n := range []int{0, 1, 2, 3, 4, 255, 256, 1001, 65507, 65508, 65527, 65528, api.MaxBytes, 1 << 17} {
		for _, byteOfIt := range []string{"\x00", "\xd7", "\xff"} {
			for _, pseudo := range []string{"", pseudo6, "\x01"} {
				m := full()
				m.Data = strings.Repeat(byteOfIt, n)
				asks(t, []any{n, pseudo}, m, pseudo, api.OK)
				back(t, []any{n, pseudo}, m, pseudo)
			}
		}
	}
}

// P8.1: the sum is of what is not sent and what is, one behind the other, of whatever length the first is.
func TestPseudoLengths(t *testing.T) {
	for pseudo, inSum := range map[string]string{
		"": "\x17\x93", "\x01": "\x92\x17", "\x01\x00": "\x16\x93", "\x00": "\x93\x17", "\xff": "\x94\x16", "\xff\xff": "\x17\x93", "\x00\x00\x01": "\x92\x17",
	} {
		want := exampleBytes[:2] + inSum + exampleBytes[4:]
		if s, e := Bytes(example(), pseudo); s != want || e != nil {
			t.Errorf("%x: %x, %v, not %x", pseudo, s, e, want)
		}
	}
	for n := range len(pseudo6) + 1 {
		for _, data := range []string{"", "o", "ev", "odd"} {
			m := api.Msg{Kind: 2, Code: 1, Rest: 1280, Data: data}
			asks(t, []any{n, data}, m, pseudo6[:n], api.OK)
			back(t, []any{n, data}, m, pseudo6[:n])
		}
	}
	back(t, "a long one", example(), strings.Repeat("\xff", 1<<17))
	asks(t, "a long one, odd", example(), strings.Repeat("\xff", 1<<17+1), api.OK)
}

// P8.1: heads that are not sent, of no, odd and even numbers of bytes; with them a text has to be right.
func TestParsedWithPseudo(t *testing.T) {
	right6, _ := plainBytes(full(), pseudo6)
	for _, x := range []struct {
		s, pseudo string
		code      api.Errno
	}{
		{exampleBytes, "", api.OK},
		{exampleBytes, "\x00\x00", api.OK},
		{exampleBytes, "\xff\xff", api.OK},
		{exampleBytes, "\x00\x01", api.ErrSum},
		{exampleBytes, "\x01", api.ErrSum},
		{exampleBytes, pseudo6, api.ErrSum},
		{right6, pseudo6, api.OK},
		{right6, "", api.ErrSum},
		{right6, pseudo6[:39] + "\x3b", api.ErrSum},
		{right6, pseudo6[:39], api.ErrSum},
		{right6, pseudo6 + "\x00\x00", api.OK},
		{right6, pseudo6 + "\x00", api.ErrSum},
		{right6, pseudo6[16:32] + pseudo6[:16] + pseudo6[32:], api.OK},
		// Behind an odd one the bytes of a message pair otherwise; all bytes change their places in the words, which leaves right what was.
		{exampleBytes, "\x00", api.OK},
		{"\x01\x01\xfd\xfe\x00\x00\x00\x00\x00", "\x01\x00", api.OK},
		{"\x01\x01\xfe\xfd\x00\x00\x00\x00\x00", "\x01", api.OK},
		{"\x01\x01\xfd\xfe\x00\x00\x00\x00\x00", "\x01", api.ErrSum},
	} {
		want, c := plainParse(x.s, x.pseudo)
		if c != x.code {
			t.Errorf("%x, %x: the chapter says %d, not %d", x.s, x.pseudo, c, x.code)
		}
		parsed(t, []any{x.s, x.pseudo}, x.s, x.pseudo, want, x.code)
	}
}

// P8.1: of an odd number of bytes that are not sent, what Bytes reckons is of all bytes as they stand, and is not always right then.
func TestOddHeads(t *testing.T) {
	right := map[bool]int{}
	for _, pseudo := range oddHeads() {
		for _, m := range []api.Msg{{}, example(), full(), {Rest: 1}, {Rest: math.MaxUint32}} {
			asks(t, []any{m, pseudo}, m, pseudo, api.OK)
			s, _ := Bytes(m, pseudo)
			want, code := plainParse(s, pseudo)
			right[code == api.OK]++
			parsed(t, []any{m, pseudo}, s, pseudo, want, code)
		}
	}
	if right[true] == 0 || right[false] == 0 {
		t.Errorf("what is right, and what is not: %v", right)
	}
}

// P8.1, P8.3: sums that come to 0, to 65535, and beside those; each is written as it is.
func TestSumsAtTheEdges(t *testing.T) {
	for name, x := range map[string]struct {
		m      api.Msg
		pseudo string
		want   string
	}{
		"nothing":                          {api.Msg{}, "", "\xff\xff"},
		"nothing, behind noughts":          {api.Msg{}, "\x00\x00\x00\x00", "\xff\xff"},
		"noughts, even":                    {api.Msg{Data: "\x00\x00"}, "", "\xff\xff"},
		"noughts, odd":                     {api.Msg{Data: "\x00\x00\x00"}, "\x00\x00", "\xff\xff"},
		"noughts, odd, behind odd":         {api.Msg{Data: "\x00"}, "\x00", "\xff\xff"},
		"a bit of a single byte":           {api.Msg{Data: "\x01"}, "", "\xfe\xff"},
		"1 of Rest":                        {api.Msg{Rest: 1}, "", "\xff\xfe"},
		"1 that is not sent":               {api.Msg{}, "\x00\x01", "\xff\xfe"},
		"Kind and Code":                    {api.Msg{Kind: 255, Code: 255}, "", "\x00\x00"},
		"Kind and Code, one less":          {api.Msg{Kind: 255, Code: 254}, "", "\x00\x01"},
		"Kind and Code, one more":          {api.Msg{Kind: 255, Code: 255, Rest: 1}, "", "\xff\xfe"},
		"Rest's upper bits":                {api.Msg{Rest: 0xffff0000}, "", "\x00\x00"},
		"Rest's lower bits":                {api.Msg{Rest: 0x0000ffff}, "", "\x00\x00"},
		"all bits of Rest":                 {api.Msg{Rest: math.MaxUint32}, "", "\x00\x00"},
		"all bits ahead of data":           {api.Msg{Kind: 255, Code: 255, Rest: math.MaxUint32}, "", "\x00\x00"},
		"data":                             {api.Msg{Data: "\xff\xff"}, "", "\x00\x00"},
		"Kind and data":                    {api.Msg{Kind: 255, Data: "\x00\xff"}, "", "\x00\x00"},
		"Kind and data, one less":          {api.Msg{Kind: 255, Data: "\x00\xfe"}, "", "\x00\x01"},
		"Kind and Rest":                    {api.Msg{Kind: 255, Rest: 0xff}, "", "\x00\x00"},
		"Kind and Rest, one more":          {api.Msg{Kind: 255, Rest: 0x100}, "", "\xff\xfe"},
		"Code and a single byte":           {api.Msg{Code: 255, Data: "\xff"}, "", "\x00\x00"},
		"both halves of Rest":              {api.Msg{Rest: 0x7fff8000}, "", "\x00\x00"},
		"what is not sent":                 {api.Msg{}, "\xff\xff", "\x00\x00"},
		"what is not sent, twice":          {api.Msg{}, "\xff\xff\xff\xff", "\x00\x00"},
		"Kind and what is not sent":        {api.Msg{Kind: 128}, "\x7f\xff", "\x00\x00"},
		"all of both":                      {api.Msg{Kind: 255, Code: 255}, "\xff\xff", "\x00\x00"},
		"one less by what isn't":           {api.Msg{Kind: 128}, "\x7f\xfe", "\x00\x01"},
		"one more by what isn't":           {api.Msg{Kind: 128}, "\x80\x00", "\xff\xfe"},
		"a head that is more than made up": {api.Msg{Rest: 0xa449}, pseudo6, "\xff\xf9"},
		"a head that is made up":           {api.Msg{Rest: 0xa443}, pseudo6, "\x00\x00"},
		"a head that is made up, -1":       {api.Msg{Rest: 0xa442}, pseudo6, "\x00\x01"},
		"a head that is made up, +1":       {api.Msg{Rest: 0xa444}, pseudo6, "\xff\xfe"},
	} {
		s, e := Bytes(x.m, x.pseudo)
		if e != nil || len(s) < 8 || s[2:4] != x.want {
			t.Errorf("%s: %x, %v", name, s, e)
		}
		asks(t, name, x.m, x.pseudo, api.OK)
		back(t, name, x.m, x.pseudo)
	}
}

// P8.1: of every sum that stands in a text, which one is right: one by one, but 0 and 65535, which are right together where anything else is in the text or ahead of it.
func TestEverySum(t *testing.T) {
	for inSum := range 65536 {
		high, low := byte(inSum>>8), byte(inSum)
		for _, x := range []struct {
			m      api.Msg
			pseudo string
			right  []int
		}{
			{example(), "", []int{0x1793, 0x1793}},
			{example(), pseudo6[:39] + "\x3d", []int{0xbbd3, 0xbbd3}},
			{api.Msg{}, "", []int{65535, 65535}},
			{api.Msg{}, "\xff\xff", []int{0, 65535}},
			{api.Msg{Rest: 0xffff0000}, "", []int{0, 65535}},
			{api.Msg{Rest: 0xa443}, pseudo6, []int{0, 65535}},
			{api.Msg{Rest: 1}, "", []int{0xfffe, 0xfffe}},
		} {
			whole, _ := plainBytes(x.m, x.pseudo)
			s := with(whole, 2, high, low)
			if inSum == x.right[0] || inSum == x.right[1] {
				parsed(t, []any{x.m, inSum}, s, x.pseudo, x.m, api.OK)
				continue
			}
			parsed(t, []any{x.m, inSum}, s, x.pseudo, api.Msg{}, api.ErrSum)
		}
	}
}

// P8.3: a bit that is turned, in each part, or in the head that is not sent, is told by the sum.
func TestTurnedBits(t *testing.T) {
	for _, m := range []api.Msg{
		{}, example(), full(), {Kind: 255, Code: 255, Rest: math.MaxUint32, Data: strings.Repeat("\xff", 9)}, {Rest: 0xffff0000}, {Rest: 1},
		{Kind: 2, Rest: 1280, Data: strings.Repeat("quoted. ", 20)}, {Kind: 129, Rest: 0xffffffff, Data: "\x00"}, {Rest: 0xa443},
	} {
		for _, pseudo := range evenHeads() {
			s, e := Bytes(m, pseudo)
			fails(t, m, e, api.OK)
			for bit := range 8 * len(s) {
				parsed(t, []any{m, pseudo, bit}, turned(s, bit), pseudo, api.Msg{}, api.ErrSum)
			}
			for bit := range 8 * len(pseudo) {
				parsed(t, []any{m, pseudo, bit, "of the head"}, s, turned(pseudo, bit), api.Msg{}, api.ErrSum)
			}
		}
	}
}

// P8.3: what is parsed has just the bytes from which it was, but for a sum of 65535 where 0 is reckoned, or one that a head of an odd length left standing.
func TestJustTheseBytes(t *testing.T) {
	for _, s := range []string{exampleBytes, "\x00\x00\xff\xff\x00\x00\x00\x00", "\x00\x00\x00\x00\x00\x00\xff\xff", "\xff\xff\x00\x00\x00\x00\x00\x00\x00"} {
		m, e := Parse(s, "")
		fails(t, s, e, api.OK)
		if again, e := Bytes(m, ""); again != s || e != nil {
			t.Errorf("%x, %v, not %x", again, e, s)
		}
	}
	for _, x := range []struct{ s, pseudo, sum string }{
		{"\x00\x00\xff\xff\x00\x00\xff\xff\x00\x00", "", "\x00\x00"},
		{"\x00\x00\xff\xff\x00\x00\x00\x00", "\xff\xff", "\x00\x00"},
		{"\x01\x01\xfe\xfd\x00\x00\x00\x00\x00", "\x01", "\xfd\xfe"},
		{exampleBytes, "\x00", "\x93\x17"},
	} {
		m, e := Parse(x.s, x.pseudo)
		fails(t, x.s, e, api.OK)
		if again, e := Bytes(m, x.pseudo); again != x.s[:2]+x.sum+x.s[4:] || e != nil {
			t.Errorf("%x, %v", again, e)
		}
	}
}

// P8.2: the Kinds of echoes with the Code 0, and with others.
func TestEcho(t *testing.T) {
	for _, rest := range []uint32{0, 1, 65535, 65536, 0x00010002, 0x12345678, 0x7fff8000, 0x80007fff, 0xffff0000, math.MaxUint32} {
		for _, data := range []string{"", "odd"} {
			id := int(rest / 65536)
			echoes(t, rest, api.Msg{Kind: 128, Rest: rest, Data: data}, id, true, true)
			echoes(t, rest, api.Msg{Kind: 129, Rest: rest, Data: data}, id, false, true)
			for _, kind := range []int{128, 129} {
				for _, code := range []int{1, 2, 128, 255, 256, -1, -256, math.MaxInt, math.MinInt} {
					echoes(t, []any{kind, code, rest}, api.Msg{Kind: kind, Code: code, Rest: rest, Data: data}, 0, false, false)
				}
			}
		}
	}
}

// P8.2: no other Kind is an echo's, whatever its Code.
func TestNoEcho(t *testing.T) {
	kinds := []int{-128, -127, -1, 256, 256 + 128, 256 + 129, 1 << 32, 1<<32 + 128, math.MaxInt, math.MinInt, math.MinInt + 129}
	for kind := range 256 {
		if kind != 128 && kind != 129 {
			kinds = append(kinds, kind)
		}
	}
	for _, kind := range kinds {
		for _, code := range []int{0, 1, 128, 129, 255, 256, -1} {
			echoes(t, []any{kind, code}, api.Msg{Kind: kind, Code: code, Rest: math.MaxUint32, Data: "d"}, 0, false, false)
		}
	}
}

// P8.2: identifiers at their bounds and beyond, from 0 on modulo 65536; all else is as it was, in what is no echo too.
func TestWithId(t *testing.T) {
	messages := []api.Msg{
		{}, example(), full(), {Kind: 129, Rest: math.MaxUint32}, {Kind: 128, Code: 1, Rest: 0x11112222}, {Kind: 2, Rest: 1280, Data: "quoted"},
		{Kind: -1, Code: 256, Rest: 0x80000001, Data: "out of bounds"}, {Kind: math.MinInt, Code: math.MaxInt},
	}
	for id, want := range map[int]uint32{
		0: 0, 1: 1, 255: 255, 256: 256, 0x1234: 0x1234, 32767: 32767, 32768: 32768, 65534: 65534, 65535: 65535,
		65536: 0, 65537: 1, 131071: 65535, 131072: 0, 1 << 32: 0, 1<<32 + 7: 7, math.MaxInt: 65535,
		-1: 65535, -2: 65534, -65535: 1, -65536: 0, -65537: 65535, -1 << 32: 0, math.MinInt: 0, math.MinInt + 1: 1,
	} {
		for _, m := range messages {
			as := m
			as.Rest = want*65536 + m.Rest%65536
			if x := WithId(m, id); x != as {
				t.Errorf("%#v, %d: %#v, not %#v", m, id, x, as)
			}
		}
		asking := WithId(api.Msg{Kind: 128, Rest: 0xabcdef01}, id)
		echoes(t, id, asking, int(want), true, true)
	}
}

// P8.2: which of all Kinds are errors, and that none beyond is, whatever else the message says.
func TestFailure(t *testing.T) {
	errors := 0
	for kind := -1; kind < 257; kind++ {
		want := kind > 0 && kind < 128
		for _, m := range []api.Msg{{Kind: kind}, {Kind: kind, Code: 1}, {Kind: kind, Code: 255, Rest: math.MaxUint32, Data: "d"}, {Kind: kind, Code: -1}, {Kind: kind, Code: 256}} {
			x := Failure(m)
			if x != want {
				t.Errorf("%#v: %v", m, x)
			}
			if x {
				errors++
			}
		}
	}
	if errors != 5*127 {
		t.Errorf("%d errors", errors)
	}
	for _, kind := range []int{-127, -128, -255, 256 + 1, 256 + 127, 65536 + 1, 1<<32 + 127, math.MaxInt, math.MinInt, math.MinInt + 1} {
		if Failure(api.Msg{Kind: kind}) {
			t.Errorf("%d is an error", kind)
		}
	}
}

// P8.1 to P8.3: messages of chance, and texts of chance, with right sums and others, behind heads of chance.
func TestOfWhatever(t *testing.T) {
	chance := rand.New(rand.NewSource(8))
	text := func(least, most int) string {
		b := make([]byte, least+chance.Intn(most-least))
		chance.Read(b)
		return string(b)
	}
	for range 5000 {
		m := api.Msg{Kind: chance.Intn(256), Code: chance.Intn(256), Rest: chance.Uint32(), Data: text(0, 60)}
		pseudo := text(0, 50)
		asks(t, m, m, pseudo, api.OK)
		back(t, m, m, pseudo)
		s := text(0, 60)
		want, code := plainParse(s, pseudo)
		parsed(t, s, s, pseudo, want, code)
		if len(s) >= 8 {
			s = summed(s, pseudo)
			want, code = plainParse(s, pseudo)
			parsed(t, s, s, pseudo, want, code)
			if code == api.OK {
				asks(t, s, want, pseudo, code)
			}
		}
	}
}

// R3: a call's answer hangs on nothing that an earlier one left, nor on what was done to its fault.
func TestFaultsAreNew(t *testing.T) {
	calls := map[string]struct {
		do   func() error
		code api.Errno
	}{
		"Parse, short": {func() error { _, e := Parse("", pseudo6); return e }, api.ErrShort},
		"Parse, sum":   {func() error { _, e := Parse(strings.Repeat("\x00", 8), pseudo6); return e }, api.ErrSum},
		"Bytes, range": {func() error { _, e := Bytes(api.Msg{Kind: 256}, pseudo6); return e }, api.ErrRange},
	}
	for name, x := range calls {
		fails(t, name, x.do(), x.code)
		*num.Only(x.do()) = num.Fault{Code: api.ErrWord, At: 9}
		fails(t, name+", again", x.do(), x.code)
	}
}

// FuzzParse is P8.1 and P8.3, the other way about, of whatever text and head that is not sent, as it is and with the sum that it ought to have.
func FuzzParse(f *testing.F) {
	f.Add("", "")
	f.Add(exampleBytes, "")
	f.Add(exampleBytes, "\x00")
	f.Add(exampleBytes[:7], pseudo6)
	f.Add(strings.Repeat("\x00", 8), "\xff\xff")
	f.Add(strings.Repeat("\xff", 12), "\xff")
	f.Add("\x02\x00\x00\x00\x00\x00\x05\x00quoted", pseudo6)
	f.Fuzz(func(t *testing.T, s, pseudo string) {
		want, code := plainParse(s, pseudo)
		parsed(t, s, s, pseudo, want, code)
		if len(s) < 8 {
			return
		}
		s = summed(s, pseudo)
		want, code = plainParse(s, pseudo)
		parsed(t, s, s, pseudo, want, code)
		if code != api.OK {
			return
		}
		again, e := Bytes(want, pseudo)
		fails(t, s, e, api.OK)
		if again != s {
			t.Errorf("%x, not %x", again, s)
		}
	})
}
