package icmp4

import (
	"errors"
	"math"
	"math/rand"
	"strings"
	"testing"

	"interpreter/api"
	"interpreter/num"
)

// exampleBytes is what the chapter's message has for bytes.
const exampleBytes = "\x08\x00\x8f\x93\x00\x01\x00\x02hi"

// example is the chapter's message.
func example() api.Msg { return api.Msg{Kind: 8, Rest: 0x00010002, Data: "hi"} }

// full is a message in which every part says something, and its data has an odd number of bytes.
func full() api.Msg { return api.Msg{Kind: 0x12, Code: 0x34, Rest: 0xfedcba98, Data: "data!"} }

// fails asks that an error is a fault of that code at 0, or none.
func fails(t *testing.T, what any, e error, code api.Errno) {
	t.Helper()
	if code == api.OK {
		if e != nil {
			t.Errorf("%#v: %v, not none", what, e)
		}
		return
	}
	var f *num.Fault
	if !errors.As(e, &f) || f == nil || *f != (num.Fault{Code: code}) {
		t.Errorf("%#v: %v, not fault %d at 0", what, e, code)
	}
}

// plainSum is a text's sum, as RFC 1071 says it; a right one's is 0.
func plainSum(s string) int {
	if len(s)%2 == 1 {
		s += "\x00"
	}
	n := 0
	for i := 0; i < len(s); i += 2 {
		n += word(s, i)
		n = n>>16 + n&65535
	}
	return 65535 - n
}

// word is that of the two bytes at a place.
func word(s string, at int) int { return int(s[at])<<8 + int(s[at+1]) }

// plainParse is what Parse has to answer, as the chapter says it.
func plainParse(s string) (api.Msg, api.Errno) {
	if len(s) < 8 {
		return api.Msg{}, api.ErrShort
	}
	if plainSum(s) != 0 {
		return api.Msg{}, api.ErrSum
	}
	rest := uint32(word(s, 4))*65536 + uint32(word(s, 6))
	return api.Msg{Kind: int(s[0]), Code: int(s[1]), Rest: rest, Data: s[8:]}, api.OK
}

// plainBytes is what Bytes has to answer, as the chapter says it.
func plainBytes(m api.Msg) (string, api.Errno) {
	if m.Kind < 0 || m.Kind > 255 || m.Code < 0 || m.Code > 255 {
		return "", api.ErrRange
	}
	r := m.Rest
	s := string([]byte{byte(m.Kind), byte(m.Code), 0, 0, byte(r >> 24), byte(r >> 16), byte(r >> 8), byte(r)}) + m.Data
	return summed(s), api.OK
}

// summed is a text of 8 or more bytes with the sum in its place that makes it right.
func summed(s string) string {
	sum := plainSum(with(s, 2, 0, 0))
	return with(s, 2, byte(sum/256), byte(sum%256))
}

// with is a text with some bytes put at a place.
func with(s string, at int, put ...byte) string {
	b := []byte(s)
	copy(b[at:], put)
	return string(b)
}

// asks holds Bytes of a message against what it has to answer, and the plain words against the same.
func asks(t *testing.T, what any, m api.Msg, code api.Errno) {
	t.Helper()
	want, c := plainBytes(m)
	if c != code {
		t.Errorf("%#v: the chapter says %d, not %d", what, c, code)
	}
	s, e := Bytes(m)
	fails(t, what, e, code)
	if s != want {
		t.Errorf("%#v: %.200x, not %.200x", what, s, want)
	}
}

// parsed asks that a text is parsed as that message, or refused by that code with no message beside it.
func parsed(t *testing.T, what any, s string, want api.Msg, code api.Errno) {
	t.Helper()
	m, e := Parse(s)
	fails(t, what, e, code)
	if m != want {
		t.Errorf("%#v: %#v, not %#v", what, m, want)
	}
}

// back asks that a message has bytes, and is parsed from them.
func back(t *testing.T, what any, m api.Msg) {
	t.Helper()
	s, e := Bytes(m)
	fails(t, what, e, api.OK)
	if len(s) != 8+len(m.Data) {
		t.Errorf("%#v: %d bytes with %d of data", what, len(s), len(m.Data))
	}
	parsed(t, what, s, m, api.OK)
}

// echoes asks what Echo answers of a message.
func echoes(t *testing.T, what any, m api.Msg, id int, asks, is bool) {
	t.Helper()
	if i, a, x := Echo(m); i != id || a != asks || x != is {
		t.Errorf("%#v: %d, %v, %v, not %d, %v, %v", what, i, a, x, id, asks, is)
	}
}

// P7.1, P7.2: the chapter's examples.
func TestExamples(t *testing.T) {
	if s, e := Bytes(example()); s != exampleBytes || e != nil {
		t.Errorf("%x, %v", s, e)
	}
	parsed(t, "its bytes", exampleBytes, example(), api.OK)
	echoes(t, "it", example(), 1, true, true)
	if m := WithId(example(), 65537); m != example() {
		t.Errorf("%#v", m)
	}
	if !Failure(api.Msg{Kind: 3}) {
		t.Error("3 is no error")
	}
	parsed(t, "7 bytes", exampleBytes[:7], api.Msg{}, api.ErrShort)
}

// P7.1: a message in which every part says something, byte by byte, with data of an odd number of bytes, an even one, and none.
func TestEveryPart(t *testing.T) {
	for data, inSum := range map[string]string{"data!": "\x3a\x93", "data": "\x5b\x93", "": "\x34\x56"} {
		m := full()
		m.Data = data
		want := "\x12\x34" + inSum + "\xfe\xdc\xba\x98" + data
		if s, e := Bytes(m); s != want || e != nil {
			t.Errorf("%x, %v, not %x", s, e, want)
		}
		parsed(t, want, want, m, api.OK)
	}
}

// P7.1: texts of fewer than 8 bytes are short, whether their sum is right or not; those of 8 and more are not.
func TestShort(t *testing.T) {
	right := map[bool]int{}
	for n := range 8 {
		for _, s := range []string{exampleBytes, strings.Repeat("\x00", 8), strings.Repeat("\xff", 8), "\x00\x00\xff\xff\x00\x00\x00\x00", "\xff\xff\xff\xff\xff\xff\xff\x00"} {
			right[plainSum(s[:n]) == 0]++
			parsed(t, []any{n, s}, s[:n], api.Msg{}, api.ErrShort)
		}
	}
	if right[true] == 0 || right[false] == 0 {
		t.Errorf("texts that are right, and that are not: %v", right)
	}
	for n := 8; n < 40; n++ {
		s := summed((exampleBytes + strings.Repeat("d", 40))[:n])
		parsed(t, n, s, api.Msg{Kind: 8, Rest: 0x00010002, Data: s[8:]}, api.OK)
		parsed(t, []any{n, "wrong"}, with(s, 2, s[2]^0xff), api.Msg{}, api.ErrSum)
	}
}

// P7.1: a text of noughts alone is not right, of whatever length; one of all bits is.
func TestNoughts(t *testing.T) {
	for n := 8; n < 40; n++ {
		parsed(t, n, strings.Repeat("\x00", n), api.Msg{}, api.ErrSum)
		s := strings.Repeat("\x00", 2) + "\xff\xff" + strings.Repeat("\x00", n-4)
		parsed(t, []any{n, "with its sum"}, s, api.Msg{Data: s[8:]}, api.OK)
	}
	bits := strings.Repeat("\xff", 12)
	parsed(t, "all bits", bits, api.Msg{Kind: 255, Code: 255, Rest: math.MaxUint32, Data: bits[8:]}, api.OK)
	parsed(t, "all bits, but half a word", bits[:11], api.Msg{}, api.ErrSum)
}

// P7.1, P7.3: Kind and Code at their bounds, and beyond.
func TestBounds(t *testing.T) {
	for name, part := range map[string]func(m *api.Msg) *int{
		"Kind": func(m *api.Msg) *int { return &m.Kind },
		"Code": func(m *api.Msg) *int { return &m.Code },
	} {
		for _, m := range []api.Msg{{}, example(), full()} {
			for x := range 256 {
				*part(&m) = x
				asks(t, []any{name, x}, m, api.OK)
				back(t, []any{name, x}, m)
			}
			for _, x := range []int{-1, 256, -2, -255, -256, 257, 511, 512, 65535, 65536, 1 << 32, -1 << 32, math.MaxInt, math.MinInt} {
				*part(&m) = x
				asks(t, []any{name, x}, m, api.ErrRange)
			}
		}
	}
	asks(t, "both below", api.Msg{Kind: -1, Code: -1}, api.ErrRange)
	asks(t, "one below, one beyond", api.Msg{Kind: -1, Code: 256, Rest: 1, Data: "d"}, api.ErrRange)
	asks(t, "both beyond", api.Msg{Kind: 256, Code: 256}, api.ErrRange)
}

// P7.1, P7.3: Rest of 0, of each bit alone, of all but one, and of all of them.
func TestRest(t *testing.T) {
	rests := []uint32{0, math.MaxUint32, 0x01020304, 0x80000000, 0x7fffffff, 65535, 65536, 0xffff0000}
	for bit := range 32 {
		rests = append(rests, 1<<bit, ^uint32(1<<bit))
	}
	for _, rest := range rests {
		for _, m := range []api.Msg{{}, example(), full()} {
			m.Rest = rest
			asks(t, rest, m, api.OK)
			back(t, rest, m)
		}
	}
}

// P7.1, P7.3: data of no, odd and even numbers of bytes, and more of it than a packet has.
func TestDataLengths(t *testing.T) {
	for _, n := range []int{0, 1, 2, 3, 4, 255, 256, 1001, 65507, 65508, 65527, 65528, api.MaxBytes, 1 << 17} {
		for _, byteOfIt := range []string{"\x00", "\xd7", "\xff"} {
			for _, m := range []api.Msg{{}, example(), full()} {
				m.Data = strings.Repeat(byteOfIt, n)
				asks(t, n, m, api.OK)
				back(t, n, m)
			}
		}
	}
}

// P7.1, P7.3: sums that come to 0, to 65535, and beside those; each is written as it is.
func TestSumsAtTheEdges(t *testing.T) {
	for name, x := range map[string]struct {
		m    api.Msg
		want string
	}{
		"nothing":                 {api.Msg{}, "\xff\xff"},
		"noughts, even":           {api.Msg{Data: "\x00\x00"}, "\xff\xff"},
		"noughts, odd":            {api.Msg{Data: "\x00\x00\x00"}, "\xff\xff"},
		"a bit of a single byte":  {api.Msg{Data: "\x01"}, "\xfe\xff"},
		"1 of Rest":               {api.Msg{Rest: 1}, "\xff\xfe"},
		"Kind and Code":           {api.Msg{Kind: 255, Code: 255}, "\x00\x00"},
		"Kind and Code, one less": {api.Msg{Kind: 255, Code: 254}, "\x00\x01"},
		"Kind and Code, one more": {api.Msg{Kind: 255, Code: 255, Rest: 1}, "\xff\xfe"},
		"Rest's upper bits":       {api.Msg{Rest: 0xffff0000}, "\x00\x00"},
		"Rest's lower bits":       {api.Msg{Rest: 0x0000ffff}, "\x00\x00"},
		"all bits of Rest":        {api.Msg{Rest: math.MaxUint32}, "\x00\x00"},
		"all bits ahead of data":  {api.Msg{Kind: 255, Code: 255, Rest: math.MaxUint32}, "\x00\x00"},
		"data":                    {api.Msg{Data: "\xff\xff"}, "\x00\x00"},
		"Kind and data":           {api.Msg{Kind: 255, Data: "\x00\xff"}, "\x00\x00"},
		"Kind and data, one less": {api.Msg{Kind: 255, Data: "\x00\xfe"}, "\x00\x01"},
		"Kind and Rest":           {api.Msg{Kind: 255, Rest: 0xff}, "\x00\x00"},
		"Kind and Rest, one more": {api.Msg{Kind: 255, Rest: 0x100}, "\xff\xfe"},
		"Code and a single byte":  {api.Msg{Code: 255, Data: "\xff"}, "\x00\x00"},
		"both halves of Rest":     {api.Msg{Rest: 0x7fff8000}, "\x00\x00"},
	} {
		s, e := Bytes(x.m)
		if e != nil || len(s) < 8 || s[2:4] != x.want {
			t.Errorf("%s: %x, %v", name, s, e)
		}
		asks(t, name, x.m, api.OK)
		back(t, name, x.m)
	}
}

// P7.1: of every sum that stands in a text, which one is right: one by one, but 0 and 65535, which are right together where anything else is in the text.
func TestEverySum(t *testing.T) {
	for inSum := range 65536 {
		high, low := byte(inSum>>8), byte(inSum)
		for _, x := range []struct {
			m     api.Msg
			right []int
		}{
			{example(), []int{0x8f93, 0x8f93}},
			{api.Msg{}, []int{65535, 65535}},
			{api.Msg{Rest: 0xffff0000}, []int{0, 65535}},
			{api.Msg{Rest: 1}, []int{0xfffe, 0xfffe}},
		} {
			whole, _ := plainBytes(x.m)
			s := with(whole, 2, high, low)
			if inSum == x.right[0] || inSum == x.right[1] {
				parsed(t, []any{x.m, inSum}, s, x.m, api.OK)
				continue
			}
			parsed(t, []any{x.m, inSum}, s, api.Msg{}, api.ErrSum)
		}
	}
}

// P7.3: a bit that is turned, in each part, is told by the sum.
func TestTurnedBits(t *testing.T) {
	for _, m := range []api.Msg{
		{}, example(), full(), {Kind: 255, Code: 255, Rest: math.MaxUint32, Data: strings.Repeat("\xff", 9)}, {Rest: 0xffff0000}, {Rest: 1},
		{Kind: 3, Code: 4, Rest: 1400, Data: strings.Repeat("quoted. ", 20)}, {Kind: 0, Rest: 0xffffffff, Data: "\x00"},
	} {
		s, e := Bytes(m)
		fails(t, m, e, api.OK)
		for bit := range 8 * len(s) {
			turned := with(s, bit/8, s[bit/8]^1<<(bit%8))
			parsed(t, []any{m, bit}, turned, api.Msg{}, api.ErrSum)
		}
	}
}

// P7.3: what is parsed has just the bytes from which it was, but for a sum of 65535 where 0 is reckoned.
func TestJustTheseBytes(t *testing.T) {
	for _, s := range []string{exampleBytes, "\x00\x00\xff\xff\x00\x00\x00\x00", "\x00\x00\x00\x00\x00\x00\xff\xff", "\xff\xff\x00\x00\x00\x00\x00\x00\x00"} {
		m, e := Parse(s)
		fails(t, s, e, api.OK)
		if again, e := Bytes(m); again != s || e != nil {
			t.Errorf("%x, %v, not %x", again, e, s)
		}
	}
	s := "\x00\x00\xff\xff\x00\x00\xff\xff\x00\x00"
	m, e := Parse(s)
	fails(t, s, e, api.OK)
	if again, e := Bytes(m); again != with(s, 2, 0, 0) || e != nil {
		t.Errorf("%x, %v", again, e)
	}
}

// P7.2: the Kinds of echoes with the Code 0, and with others.
func TestEcho(t *testing.T) {
	for _, rest := range []uint32{0, 1, 65535, 65536, 0x00010002, 0x12345678, 0x7fff8000, 0x80007fff, 0xffff0000, math.MaxUint32} {
		for _, data := range []string{"", "odd"} {
			id := int(rest / 65536)
			echoes(t, rest, api.Msg{Kind: 8, Rest: rest, Data: data}, id, true, true)
			echoes(t, rest, api.Msg{Kind: 0, Rest: rest, Data: data}, id, false, true)
			for _, kind := range []int{0, 8} {
				for _, code := range []int{1, 2, 128, 255, 256, -1, -256, math.MaxInt, math.MinInt} {
					echoes(t, []any{kind, code, rest}, api.Msg{Kind: kind, Code: code, Rest: rest, Data: data}, 0, false, false)
				}
			}
		}
	}
}

// P7.2: no other Kind is an echo's, whatever its Code.
func TestNoEcho(t *testing.T) {
	kinds := []int{-8, -1, 256, 264, 1 << 32, 1<<32 + 8, math.MaxInt, math.MinInt}
	for kind := 1; kind < 256; kind++ {
		if kind != 8 {
			kinds = append(kinds, kind)
		}
	}
	for _, kind := range kinds {
		for _, code := range []int{0, 1, 8, 255, 256, -1} {
			echoes(t, []any{kind, code}, api.Msg{Kind: kind, Code: code, Rest: math.MaxUint32, Data: "d"}, 0, false, false)
		}
	}
}

// P7.2: identifiers at their bounds and beyond, from 0 on modulo 65536; all else is as it was, in what is no echo too.
func TestWithId(t *testing.T) {
	messages := []api.Msg{
		{}, example(), full(), {Kind: 0, Rest: math.MaxUint32}, {Kind: 8, Code: 1, Rest: 0x11112222}, {Kind: 3, Code: 4, Rest: 1400, Data: "quoted"},
		{Kind: -1, Code: 256, Rest: 0x80000001, Data: "out of bounds"}, {Kind: math.MinInt, Code: math.MaxInt},
	}
	for id, want := range map[int]uint32{
		0: 0, 1: 1, 255: 255, 256: 256, 0x1234: 0x1234, 32767: 32767, 32768: 32768, 65534: 65534, 65535: 65535,
		65536: 0, 65537: 1, 131071: 65535, 131072: 0, 1 << 32: 0, 1<<32 + 7: 7, math.MaxInt: 65535,
		-1: 65535, -2: 65534, -65535: 1, -65536: 0, -65537: 65535, -1 << 32: 0, math.MinInt: 0, math.MinInt + 1: 1,
	} {
		for _, m := range messages {
			as := m
			as.Rest = want*65536 + m.Rest%65536
			if x := WithId(m, id); x != as {
				t.Errorf("%#v, %d: %#v, not %#v", m, id, x, as)
			}
		}
		asking := WithId(api.Msg{Kind: 8, Rest: 0xabcdef01}, id)
		echoes(t, id, asking, int(want), true, true)
	}
}

// P7.2: which of all Kinds are errors, and that none beyond is, whatever else the message says.
func TestFailure(t *testing.T) {
	for kind := -1; kind < 257; kind++ {
		want := kind == 3 || kind == 4 || kind == 5 || kind == 11 || kind == 12
		for _, m := range []api.Msg{{Kind: kind}, {Kind: kind, Code: 1}, {Kind: kind, Code: 255, Rest: math.MaxUint32, Data: "d"}, {Kind: kind, Code: -1}, {Kind: kind, Code: 256}} {
			if x := Failure(m); x != want {
				t.Errorf("%#v: %v", m, x)
			}
		}
	}
	for _, kind := range []int{-3, -5, 256 + 3, 65536 + 11, 1<<32 + 12, math.MaxInt, math.MinInt, math.MinInt + 3} {
		if Failure(api.Msg{Kind: kind}) {
			t.Errorf("%d is an error", kind)
		}
	}
}

// P7.1 to P7.3: messages of chance, and texts of chance, with right sums and others.
func TestOfWhatever(t *testing.T) {
	chance := rand.New(rand.NewSource(7))
	text := func(least, most int) string {
		b := make([]byte, least+chance.Intn(most-least))
		chance.Read(b)
		return string(b)
	}
	for range 5000 {
		m := api.Msg{Kind: chance.Intn(256), Code: chance.Intn(256), Rest: chance.Uint32(), Data: text(0, 60)}
		asks(t, m, m, api.OK)
		back(t, m, m)
		s := text(0, 60)
		want, code := plainParse(s)
		parsed(t, s, s, want, code)
		if len(s) >= 8 {
			s = summed(s)
			want, code = plainParse(s)
			parsed(t, s, s, want, code)
			asks(t, s, want, code)
		}
	}
}

// R3: a call's answer hangs on nothing that an earlier one left, nor on what was done to its fault.
func TestFaultsAreNew(t *testing.T) {
	calls := map[string]struct {
		do   func() error
		code api.Errno
	}{
		"Parse, short": {func() error { _, e := Parse(""); return e }, api.ErrShort},
		"Parse, sum":   {func() error { _, e := Parse(strings.Repeat("\x00", 8)); return e }, api.ErrSum},
		"Bytes, range": {func() error { _, e := Bytes(api.Msg{Kind: 256}); return e }, api.ErrRange},
	}
	for name, x := range calls {
		fails(t, name, x.do(), x.code)
		*num.Only(x.do()) = num.Fault{Code: api.ErrWord, At: 9}
		fails(t, name+", again", x.do(), x.code)
	}
}

// FuzzParse is P7.1 and P7.3, the other way about, of whatever text, as it is and with the sum that it ought to have.
func FuzzParse(f *testing.F) {
	f.Add("")
	f.Add(exampleBytes)
	f.Add(exampleBytes[:7])
	f.Add(strings.Repeat("\x00", 8))
	f.Add(strings.Repeat("\xff", 12))
	f.Add("\x03\x04\x00\x00\x00\x00\x05\x78quoted")
	f.Fuzz(func(t *testing.T, s string) {
		want, code := plainParse(s)
		parsed(t, s, s, want, code)
		if len(s) < 8 {
			return
		}
		s = summed(s)
		want, code = plainParse(s)
		parsed(t, s, s, want, code)
		again, e := Bytes(want)
		fails(t, s, e, api.OK)
		if again != s {
			t.Errorf("%x, not %x", again, s)
		}
	})
}
