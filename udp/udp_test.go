package udp

import (
	"errors"
	"math"
	"math/rand"
	"strings"
	"testing"

	"interpreter/api"
	"interpreter/num"
)

// example is the chapter's datagram, and exampleBytes its bytes without a head that is not sent.
func example() api.Dgram { return api.Dgram{From: 1, To: 2, Data: "hi"} }

const exampleBytes = "\x00\x01\x00\x02\x00\x0a\x97\x89hi"

// pseudo4 is a head that is summed over IPv4 and not sent, pseudo6 one over IPv6; each is for 12 bytes.
const (
	pseudo4 = "\xc0\x00\x02\x21\x0a\x00\x00\x01\x00\x11\x00\x0c"
	pseudo6 = "\x20\x01\x0d\xb8\x00\x00\x00\x00\x00\x00\x00\x00\x00\x00\x00\x01" +
		"\x20\x01\x0d\xb8\x00\x00\x00\x00\x00\x00\x00\x00\x00\x00\x00\x02" +
		"\x00\x00\x00\x0c\x00\x00\x00\x11"
)

// fails asks that an error is a fault of that code at 0, or none.
func fails(t *testing.T, what any, e error, code api.Errno) {
	t.Helper()
	if code == api.OK {
		if e != nil {
			t.Errorf("%#v: %v, not none", what, e)
		}
		return
	}
	var f *num.Fault
	if !errors.As(e, &f) || f == nil || *f != (num.Fault{Code: code}) {
		t.Errorf("%#v: %v, not fault %d at 0", what, e, code)
	}
}

// plainSum is a text's sum, as RFC 1071 says it; a right one's is 0.
func plainSum(s string) int {
	if len(s)%2 == 1 {
		s += "\x00"
	}
	n := 0
	for i := 0; i < len(s); i += 2 {
		n += int(s[i])<<8 + int(s[i+1])
		n = n>>16 + n&65535
	}
	return 65535 - n
}

// plainBytes is the bytes of a datagram that has some, as the chapter says them.
func plainBytes(d api.Dgram, pseudo string) string {
	n := 8 + len(d.Data)
	head := string([]byte{byte(d.From / 256), byte(d.From % 256), byte(d.To / 256), byte(d.To % 256), byte(n / 256), byte(n % 256)})
	x := plainSum(pseudo + head + "\x00\x00" + d.Data)
	if x == 0 {
		x = 65535
	}
	return head + string([]byte{byte(x / 256), byte(x % 256)}) + d.Data
}

// plainCode is what Bytes has to refuse a datagram by, as the chapter says it.
func plainCode(d api.Dgram) api.Errno {
	if d.From < 0 || d.From > 65535 || d.To < 0 || d.To > 65535 {
		return api.ErrRange
	}
	if len(d.Data) > 65527 {
		return api.ErrLong
	}
	return api.OK
}

// word is that of the two bytes at a place.
func word(s string, at int) int { return int(s[at])<<8 + int(s[at+1]) }

// plainParse is what Parse has to answer, as the chapter says it.
func plainParse(s string) (api.Dgram, api.Errno) {
	if len(s) < 8 {
		return api.Dgram{}, api.ErrShort
	}
	if word(s, 4) != len(s) {
		return api.Dgram{}, api.ErrForm
	}
	return api.Dgram{From: word(s, 0), To: word(s, 2), Sum: word(s, 6), Data: s[8:]}, api.OK
}

// plainCheck is what Check has to answer, as the chapter says it.
func plainCheck(s, pseudo string) api.Errno {
	d, c := plainParse(s)
	switch {
	case c != api.OK:
		return c
	case d.Sum == 0:
		return api.ErrNone
	case plainSum(pseudo+s) != 0:
		return api.ErrSum
	}
	return api.OK
}

// with is a text with some bytes put at a place.
func with(s string, at int, put ...byte) string {
	b := []byte(s)
	copy(b[at:], put)
	return string(b)
}

// asks holds Bytes of a datagram against what it has to answer, and the plain words against the same.
func asks(t *testing.T, what any, d api.Dgram, pseudo string, code api.Errno) {
	t.Helper()
	if c := plainCode(d); c != code {
		t.Errorf("%#v: the chapter says %d, not %d", what, c, code)
	}
	s, e := Bytes(d, pseudo)
	fails(t, what, e, code)
	if code != api.OK && s != "" {
		t.Errorf("%#v: %d bytes beside an error", what, len(s))
	}
	if code == api.OK && s != plainBytes(d, pseudo) {
		t.Errorf("%#v: %.200x, not %.200x", what, s, plainBytes(d, pseudo))
	}
}

// parsed asks that a text is parsed as that datagram, or refused by that code with no datagram beside it.
func parsed(t *testing.T, what any, s string, want api.Dgram, code api.Errno) {
	t.Helper()
	d, e := Parse(s)
	fails(t, what, e, code)
	if d != want {
		t.Errorf("%#v: %#v, not %#v", what, d, want)
	}
}

// back asks that a datagram's bytes are parsed as it, with the Sum that stands there, which is not 0; and are checked, if the head that is not sent has an even length.
func back(t *testing.T, what any, d api.Dgram, pseudo string) {
	t.Helper()
	s, e := Bytes(d, pseudo)
	if e != nil || len(s) < 8 {
		t.Errorf("%#v: %d bytes, %v", what, len(s), e)
		return
	}
	d.Sum = word(s, 6)
	if d.Sum == 0 {
		t.Errorf("%#v: the Sum is 0", what)
	}
	parsed(t, what, s, d, api.OK)
	if len(pseudo)%2 == 0 {
		fails(t, what, Check(s, pseudo), api.OK)
	}
}

// P5.1 to P5.3: the chapter's examples.
func TestExamples(t *testing.T) {
	if s, e := Bytes(example(), ""); s != exampleBytes || e != nil {
		t.Errorf("%x, %v", s, e)
	}
	parsed(t, "7 bytes", exampleBytes[:7], api.Dgram{}, api.ErrShort)
	parsed(t, "one more said", "\x00\x01\x00\x02\x00\x09\x00\x00", api.Dgram{}, api.ErrForm)
	fails(t, "no sum", Check("\x00\x01\x00\x02\x00\x08\x00\x00", ""), api.ErrNone)
}

// P5.3: datagrams in which every part says something, byte by byte, over IPv4 and over IPv6.
func TestEveryPart(t *testing.T) {
	d := api.Dgram{From: 0x1234, To: 0xfedc, Data: "data"}
	for pseudo, want := range map[string]string{
		pseudo4: "\x12\x34\xfe\xdc\x00\x0c\x49\xe0data",
		pseudo6: "\x12\x34\xfe\xdc\x00\x0c\xba\x8ddata",
	} {
		if s, e := Bytes(d, pseudo); s != want || e != nil {
			t.Errorf("%x, %v, not %x", s, e, want)
		}
		fails(t, want, Check(want, pseudo), api.OK)
		parsed(t, want, want, api.Dgram{From: 0x1234, To: 0xfedc, Sum: word(want, 6), Data: "data"}, api.OK)
	}
	if s, e := Bytes(api.Dgram{}, ""); s != "\x00\x00\x00\x00\x00\x08\xff\xf7" || e != nil {
		t.Errorf("of zero values: %x, %v", s, e)
	}
}

// P5.3: each port at its bounds, and beyond.
func TestPorts(t *testing.T) {
	for name, part := range map[string]func(d *api.Dgram) *int{
		"From": func(d *api.Dgram) *int { return &d.From },
		"To":   func(d *api.Dgram) *int { return &d.To },
	} {
		for _, x := range []int{0, 1, 255, 256, 32767, 32768, 65534, 65535} {
			d := example()
			*part(&d) = x
			asks(t, []any{name, x}, d, pseudo4, api.OK)
			back(t, []any{name, x}, d, pseudo4)
		}
		for _, x := range []int{-1, 65536, -256, -65535, -65536, 65537, 1 << 17, 1 << 32, -1 << 32, math.MaxInt, math.MinInt} {
			d := example()
			*part(&d) = x
			asks(t, []any{name, x}, d, pseudo4, api.ErrRange)
		}
	}
	asks(t, "both beyond", api.Dgram{From: -1, To: 65536}, "", api.ErrRange)
}

// P5.3: Data of no bytes, of odd and even numbers, of the most, and of more.
func TestDataLengths(t *testing.T) {
	for _, n := range []int{0, 1, 2, 3, 4, 247, 248, 249, 1000, 1001, 65525, 65526, 65527} {
		for _, pseudo := range []string{"", pseudo4, pseudo6} {
			d := api.Dgram{From: 53, To: 5353, Data: strings.Repeat("\xd7", n)}
			asks(t, n, d, pseudo, api.OK)
			back(t, n, d, pseudo)
		}
	}
	s, e := Bytes(api.Dgram{Data: strings.Repeat("x", 65527)}, "")
	if fails(t, "the most", e, api.OK); len(s) != 65535 || s[4:6] != "\xff\xff" {
		t.Errorf("the most: %d bytes", len(s))
	}
	for _, n := range []int{65528, 65529, 65535, 65536, 65537, 65536 + 8, 1 << 17} {
		asks(t, n, api.Dgram{From: 53, To: 5353, Data: strings.Repeat("x", n)}, pseudo4, api.ErrLong)
	}
}

// P5.3: of several errors the range's is told first.
func TestWhichErrorOfBytes(t *testing.T) {
	long := strings.Repeat("x", 65528)
	asks(t, "From and Data", api.Dgram{From: -1, Data: long}, "", api.ErrRange)
	asks(t, "To and Data", api.Dgram{To: 65536, Data: long}, "", api.ErrRange)
	asks(t, "all", api.Dgram{From: 65536, To: -1, Data: long}, "", api.ErrRange)
	asks(t, "Data, and no error in a Sum", api.Dgram{Sum: -1, Data: long}, "", api.ErrLong)
}

// P5.3: a sum that comes to 0 is written as 65535, and is right; the sums beside that are written as they are.
func TestSumOf0(t *testing.T) {
	for name, x := range map[string]struct {
		d      api.Dgram
		pseudo string
		want   string
	}{
		"by a port":             {api.Dgram{From: 0xfff7}, "", "\xff\xff"},
		"by the other port":     {api.Dgram{To: 0xfff7}, "", "\xff\xff"},
		"by Data":               {api.Dgram{Data: "\xff\xf5"}, "", "\xff\xff"},
		"by Data, twice 65535":  {api.Dgram{From: 0xffff, Data: "\xff\xf5"}, "", "\xff\xff"},
		"by a single byte":      {api.Dgram{From: 0x00f6, Data: "\xff"}, "", "\xff\xff"},
		"by what is not sent":   {api.Dgram{}, "\xff\xf7", "\xff\xff"},
		"one less":              {api.Dgram{From: 0xfff6}, "", "\x00\x01"},
		"one more":              {api.Dgram{From: 0xfff8}, "", "\xff\xfe"},
		"one more by Data":      {api.Dgram{Data: "\xff\xf6"}, "", "\xff\xfe"},
		"one less, twice 65535": {api.Dgram{From: 0xffff, Data: "\xff\xf4"}, "", "\x00\x01"},
	} {
		s, e := Bytes(x.d, x.pseudo)
		if e != nil || len(s) != 8+len(x.d.Data) || s[6:8] != x.want {
			t.Errorf("%s: %x, %v", name, s, e)
		}
		asks(t, name, x.d, x.pseudo, api.OK)
		back(t, name, x.d, x.pseudo)
	}
	zeros := 0
	for from := range 65536 {
		d := api.Dgram{From: from, To: 7, Data: "odd"}
		s, e := Bytes(d, pseudo4)
		if e != nil || s != plainBytes(d, pseudo4) || s[6:8] == "\x00\x00" || Check(s, pseudo4) != nil {
			t.Fatalf("%d: %x, %v", from, s, e)
		}
		if s[6:8] == "\xff\xff" {
			zeros++
		}
	}
	if zeros != 1 {
		t.Errorf("%d sums of 0", zeros)
	}
}

// P5.3: the sum is of what is not sent and what is, one behind the other, of whatever length the first is.
func TestPseudoLengths(t *testing.T) {
	if s, e := Bytes(example(), "\x01"); s != "\x00\x01\x00\x02\x00\x0a\x88\x97hi" || e != nil {
		t.Errorf("of one byte: %x, %v", s, e)
	}
	if s, e := Bytes(example(), "\x01\x00"); s != "\x00\x01\x00\x02\x00\x0a\x96\x89hi" || e != nil {
		t.Errorf("of two bytes: %x, %v", s, e)
	}
	for n := range len(pseudo6) + 1 {
		for _, data := range []string{"", "o", "ev", "odd"} {
			d := api.Dgram{From: 0x8001, To: 0x4002, Data: data}
			asks(t, []any{n, data}, d, pseudo6[:n], api.OK)
			back(t, []any{n, data}, d, pseudo6[:n])
		}
	}
	back(t, "a long one", example(), strings.Repeat("\xff", 1<<17))
}

// P5.3: a Sum that d has does not count, whatever it is.
func TestOwnSum(t *testing.T) {
	for _, x := range []int{0, 1, 0x9789, 65535, 65536, -1, math.MaxInt, math.MinInt} {
		d := example()
		d.Sum = x
		if s, e := Bytes(d, ""); s != exampleBytes || e != nil {
			t.Errorf("%d: %x, %v", x, s, e)
		}
		back(t, x, d, pseudo4)
	}
}

// P5.1: texts that are too short for a head, and the shortest that is none.
func TestShort(t *testing.T) {
	for n := range 8 {
		// Each says as many bytes as there are, as far as it goes, and is too short all the same.
		for _, s := range []string{exampleBytes[:n], with(exampleBytes, 4, 0, byte(n))[:n]} {
			parsed(t, n, s, api.Dgram{}, api.ErrShort)
			fails(t, n, Check(s, ""), api.ErrShort)
		}
	}
	parsed(t, 8, "\x00\x01\x00\x02\x00\x08\x00\x07", api.Dgram{From: 1, To: 2, Sum: 7}, api.OK)
}

// P5.1: texts of fewer and of more bytes than they say.
func TestWhatIsSaid(t *testing.T) {
	text := "\xab\xcd\xef\x01\x00\x00\x23\x45" + strings.Repeat("d", 600)
	for n := 8; n < 24; n++ {
		for said := range 700 {
			s := with(text[:n], 4, byte(said>>8), byte(said))
			if said == n {
				parsed(t, n, s, api.Dgram{From: 0xabcd, To: 0xef01, Sum: 0x2345, Data: text[8:n]}, api.OK)
				continue
			}
			parsed(t, []any{n, said}, s, api.Dgram{}, api.ErrForm)
			fails(t, []any{n, said}, Check(s, ""), api.ErrForm)
		}
	}
	whole := plainBytes(api.Dgram{Data: strings.Repeat("x", 65527)}, "")
	parsed(t, "one byte of many gone", whole[:65534], api.Dgram{}, api.ErrForm)
	parsed(t, "one behind the most", whole+"x", api.Dgram{}, api.ErrForm)
	for n := range 20 {
		s := with(whole+strings.Repeat("x", 20), 4, 0, byte(n))[:65536+n]
		parsed(t, []any{"modulo 65536", n}, s, api.Dgram{}, api.ErrForm)
	}
	parsed(t, "nothing said", with(exampleBytes, 4, 0, 0), api.Dgram{}, api.ErrForm)
	parsed(t, "padding behind", exampleBytes+"\x00", api.Dgram{}, api.ErrForm)
}

// P5.1: each number at its bounds, the Sum as it stands there, right or not.
func TestParsedNumbers(t *testing.T) {
	for _, x := range []int{0, 1, 127, 128, 255, 256, 0x1234, 32767, 32768, 65534, 65535} {
		high, low := byte(x>>8), byte(x)
		parsed(t, []any{"From", x}, with(exampleBytes, 0, high, low), api.Dgram{From: x, To: 2, Sum: 0x9789, Data: "hi"}, api.OK)
		parsed(t, []any{"To", x}, with(exampleBytes, 2, high, low), api.Dgram{From: 1, To: x, Sum: 0x9789, Data: "hi"}, api.OK)
		parsed(t, []any{"Sum", x}, with(exampleBytes, 6, high, low), api.Dgram{From: 1, To: 2, Sum: x, Data: "hi"}, api.OK)
	}
	parsed(t, "bytes that are no letters", with(exampleBytes, 8, 0, 0xff), api.Dgram{From: 1, To: 2, Sum: 0x9789, Data: "\x00\xff"}, api.OK)
}

// P5.2: of every Sum, which one is right, and that 0 is none; the order of the errors too.
func TestEverySum(t *testing.T) {
	for x := range 65536 {
		s := with(exampleBytes, 6, byte(x>>8), byte(x))
		want := api.ErrSum
		if x == 0 {
			want = api.ErrNone
		} else if x == 0x9789 {
			want = api.OK
		}
		fails(t, x, Check(s, ""), want)
		fails(t, []any{x, "said too much"}, Check(with(s, 5, 11), ""), api.ErrForm)
	}
	for _, pseudo := range []string{"", "\x00", "\xff\xff", pseudo4} {
		// Without its sum a datagram is not one whose sum is wrong, even where the noughts there would be right.
		none := "\xff\xf7\x00\x00\x00\x08\x00\x00"
		fails(t, "no sum", Check(none, pseudo), api.ErrNone)
		fails(t, "no sum, form first", Check(none+"x", pseudo), api.ErrForm)
		fails(t, "no sum, short first", Check(none[:7], pseudo), api.ErrShort)
	}
	fails(t, "65535, where it comes to 0", Check("\xff\xf7\x00\x00\x00\x08\xff\xff", ""), api.OK)
}

// P5.2: heads that are not sent, of no, odd and even numbers of bytes; one behind the other a text has to be right.
func TestCheckedWithPseudo(t *testing.T) {
	right4, right6 := "\x12\x34\xfe\xdc\x00\x0c\x49\xe0data", "\x12\x34\xfe\xdc\x00\x0c\xba\x8ddata"
	for _, x := range []struct {
		s, pseudo string
		code      api.Errno
	}{
		{exampleBytes, "", api.OK},
		{exampleBytes, "\x00\x00", api.OK},
		{exampleBytes, "\xff\xff", api.OK},
		{exampleBytes, "\x00\x01", api.ErrSum},
		{exampleBytes, "\x01", api.ErrSum},
		{right4, pseudo4, api.OK},
		{right6, pseudo6, api.OK},
		{right4, pseudo6, api.ErrSum},
		{right6, pseudo4, api.ErrSum},
		{right4, "", api.ErrSum},
		{right4, pseudo4[:10] + "\x00\x0d", api.ErrSum},
		{right4, pseudo4 + "\x00\x00", api.OK},
		// Behind an odd one the bytes of a datagram pair otherwise; all bytes change their places in the words, which leaves right what was.
		{exampleBytes, "\x00", api.OK},
		{"\x00\xf6\xfe\x00\x00\x08\x01\x00", "\x01", api.OK},
		{"\x00\xf6\xfe\x00\x00\x08\x01\x00", "\x01\x00", api.ErrSum},
		{"\x00\x01\x00\x02\x00\x0a\x88\x97hi", "\x01", api.ErrSum},
	} {
		fails(t, []any{x.s, x.pseudo}, Check(x.s, x.pseudo), x.code)
		if c := plainCheck(x.s, x.pseudo); c != x.code {
			t.Errorf("%x, %x: the chapter says %d, not %d", x.s, x.pseudo, c, x.code)
		}
	}
}

// P5.4: a bit that is turned, in the ports, in how long it is, in the sum and in Data, is told by Check.
func TestTurnedBits(t *testing.T) {
	some := 0
	for _, d := range []api.Dgram{
		{}, example(), {From: 65535, To: 65535, Data: "odd"}, {From: 0xfff7}, {From: 0xfff6}, {From: 53, To: 1024, Data: "\x00\x00\x00\xff\xff\xff"},
		{To: 0x7ff7}, {From: 1, To: 2, Data: strings.Repeat("long", 60)},
	} {
		for _, pseudo := range []string{"", "\x00\x00", pseudo4, pseudo6} {
			s, _ := Bytes(d, pseudo)
			fails(t, s, Check(s, pseudo), api.OK)
			for bit := range 8 * len(s) {
				turned := with(s, bit/8, s[bit/8]^1<<(bit%8))
				want := api.ErrSum
				if bit/16 == 2 {
					want = api.ErrForm
				} else if turned[6:8] == "\x00\x00" {
					want = api.ErrNone
					some++
				}
				fails(t, []any{s, pseudo, bit}, Check(turned, pseudo), want)
			}
		}
	}
	if some == 0 {
		t.Error("of no sum a turned bit made none")
	}
}

// P5.1 to P5.4: datagrams of chance, and heads of chance that are not sent.
func TestOfWhatever(t *testing.T) {
	chance := rand.New(rand.NewSource(5))
	text := func(most int) string {
		b := make([]byte, chance.Intn(most))
		chance.Read(b)
		return string(b)
	}
	for range 5000 {
		d := api.Dgram{From: chance.Intn(65536), To: chance.Intn(65536), Sum: chance.Int() - chance.Int(), Data: text(60)}
		pseudo := text(50)
		asks(t, d, d, pseudo, api.OK)
		back(t, d, d, pseudo)
		s := plainBytes(d, pseudo)
		fails(t, []any{s, pseudo}, Check(s, pseudo), plainCheck(s, pseudo))
	}
}

// R3: a call's answer hangs on nothing that an earlier one left, nor on what was done to its fault.
func TestFaultsAreNew(t *testing.T) {
	calls := map[string]struct {
		do   func() error
		code api.Errno
	}{
		"Parse, short":  {func() error { _, e := Parse(""); return e }, api.ErrShort},
		"Parse, form":   {func() error { _, e := Parse(exampleBytes[:9]); return e }, api.ErrForm},
		"Check, of it":  {func() error { return Check("", "") }, api.ErrShort},
		"Check, no sum": {func() error { return Check("\x00\x01\x00\x02\x00\x08\x00\x00", "") }, api.ErrNone},
		"Check, sum":    {func() error { return Check(exampleBytes, pseudo4) }, api.ErrSum},
		"Bytes, range":  {func() error { _, e := Bytes(api.Dgram{To: -1}, ""); return e }, api.ErrRange},
		"Bytes, long":   {func() error { _, e := Bytes(api.Dgram{Data: strings.Repeat("x", 65528)}, ""); return e }, api.ErrLong},
	}
	for name, x := range calls {
		fails(t, name, x.do(), x.code)
		*num.Only(x.do()) = num.Fault{Code: api.ErrWord, At: 9}
		fails(t, name+", again", x.do(), x.code)
	}
}

// FuzzParse is P5.1, P5.2, and P5.4 the other way about, of whatever text and head that is not sent.
func FuzzParse(f *testing.F) {
	f.Add("", "")
	f.Add(exampleBytes, "")
	f.Add("\x12\x34\xfe\xdc\x00\x0c\x49\xe0data", pseudo4)
	f.Add("\x00\x01\x00\x02\x00\x08\x00\x00", "\x01")
	f.Add("\xff\xf7\x00\x00\x00\x08\xff\xff", "")
	f.Fuzz(func(t *testing.T, s, pseudo string) {
		want, code := plainParse(s)
		parsed(t, s, s, want, code)
		fails(t, []any{s, pseudo}, Check(s, pseudo), plainCheck(s, pseudo))
		if code == api.OK {
			asks(t, s, want, pseudo, api.OK)
			back(t, s, want, pseudo)
		}
	})
}
