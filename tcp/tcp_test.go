package tcp

import (
	"errors"
	"math"
	"math/rand"
	"strings"
	"testing"

	"interpreter/api"
	"interpreter/num"
)

// exampleRaw is all the bytes of the chapter's segment ahead of Bytes, and exampleBytes what they make of it without a head that is not sent.
const (
	exampleRaw   = "\x00\x00\x00\x00\x00\x00\x00\x00\x00\x00\x00\x00\x50\x00\x00\x00\x00\x00\x00\x00"
	exampleBytes = "\x00\x01\x00\x02\x00\x00\x00\x00\x00\x00\x00\x00\x50\x00\x00\x00\xaf\xfc\x00\x00"
)

// example is the chapter's segment.
func example() api.Seg { return api.Seg{From: 1, To: 2, Raw: exampleRaw} }

// fullRaw is a segment in which every part says something: 24 bytes of head, and data.
const fullRaw = "\x12\x34\xfe\xdcseq.ack.\x60\x12wi??up\x02\x04\x05\xb4data!"

// pseudo4 is a head that is summed over IPv4 and not sent, pseudo6 one over IPv6; each is for 29 bytes.
const (
	pseudo4 = "\xc0\x00\x02\x21\x0a\x00\x00\x01\x00\x06\x00\x1d"
	pseudo6 = "\x20\x01\x0d\xb8\x00\x00\x00\x00\x00\x00\x00\x00\x00\x00\x00\x01" +
		"\x20\x01\x0d\xb8\x00\x00\x00\x00\x00\x00\x00\x00\x00\x00\x00\x02" +
		"\x00\x00\x00\x1d\x00\x00\x00\x06"
)

// fails asks that an error is a fault of that code at 0, or none.
func fails(t *testing.T, what any, e error, code api.Errno) {
	t.Helper()
	if code == api.OK {
		if e != nil {
			t.Errorf("%#v: %v, not none", what, e)
		}
		return
	}
	var f *num.Fault
	if !errors.As(e, &f) || f == nil || *f != (num.Fault{Code: code}) {
		t.Errorf("%#v: %v, not fault %d at 0", what, e, code)
	}
}

// plainSum is a text's sum, as RFC 1071 says it; a right one's is 0.
func plainSum(s string) int {
	if len(s)%2 == 1 {
		s += "\x00"
	}
	n := 0
	for i := 0; i < len(s); i += 2 {
		n += word(s, i)
		n = n>>16 + n&65535
	}
	return 65535 - n
}

// word is that of the two bytes at a place.
func word(s string, at int) int { return int(s[at])<<8 + int(s[at+1]) }

// plainParse is what Parse has to answer, as the chapter says it.
func plainParse(s string) (api.Seg, api.Errno) {
	if len(s) < 20 {
		return api.Seg{}, api.ErrShort
	}
	n := int(s[12]) / 16
	if n < 5 {
		return api.Seg{}, api.ErrForm
	}
	if len(s) < 4*n {
		return api.Seg{}, api.ErrShort
	}
	return api.Seg{From: word(s, 0), To: word(s, 2), Flags: int(s[13]) % 64, Raw: s}, api.OK
}

// plainCheck is what Check has to answer, as the chapter says it.
func plainCheck(s, pseudo string) api.Errno {
	if _, c := plainParse(s); c != api.OK {
		return c
	}
	if plainSum(pseudo+s) != 0 {
		return api.ErrSum
	}
	return api.OK
}

// plainBytes is what Bytes has to answer, as the chapter says it.
func plainBytes(x api.Seg, pseudo string) (string, api.Errno) {
	if _, c := plainParse(x.Raw); c != api.OK {
		return "", c
	}
	if x.From < 0 || x.From > 65535 || x.To < 0 || x.To > 65535 {
		return "", api.ErrRange
	}
	s := with(x.Raw, 0, byte(x.From/256), byte(x.From%256), byte(x.To/256), byte(x.To%256))
	s = with(s, 16, 0, 0)
	sum := plainSum(pseudo + s)
	return with(s, 16, byte(sum/256), byte(sum%256)), api.OK
}

// with is a text with some bytes put at a place.
func with(s string, at int, put ...byte) string {
	b := []byte(s)
	copy(b[at:], put)
	return string(b)
}

// asks holds Bytes of a segment against what it has to answer, and the plain words against the same.
func asks(t *testing.T, what any, x api.Seg, pseudo string, code api.Errno) {
	t.Helper()
	want, c := plainBytes(x, pseudo)
	if c != code {
		t.Errorf("%#v: the chapter says %d, not %d", what, c, code)
	}
	s, e := Bytes(x, pseudo)
	fails(t, what, e, code)
	if s != want {
		t.Errorf("%#v: %.200x, not %.200x", what, s, want)
	}
}

// parsed asks that a text is parsed as that segment, or refused by that code with no segment beside it; and that Check refuses it likewise.
func parsed(t *testing.T, what any, s string, want api.Seg, code api.Errno) {
	t.Helper()
	x, e := Parse(s)
	fails(t, what, e, code)
	if x != want {
		t.Errorf("%#v: %#v, not %#v", what, x, want)
	}
	if code != api.OK {
		fails(t, []any{"Check", what}, Check(s, ""), code)
		fails(t, []any{"Check", what}, Check(s, pseudo4), code)
		asks(t, []any{"Bytes", what}, api.Seg{Raw: s}, "", code)
	}
}

// back asks that a segment's bytes are parsed as it, as long, with the flags that its Raw says, all but ports and sum as it was; and are checked, if the head that is not sent has an even length.
func back(t *testing.T, what any, x api.Seg, pseudo string) {
	t.Helper()
	s, e := Bytes(x, pseudo)
	if e != nil || len(s) != len(x.Raw) {
		t.Errorf("%#v: %d bytes of %d, %v", what, len(s), len(x.Raw), e)
		return
	}
	if s[4:16] != x.Raw[4:16] || s[18:] != x.Raw[18:] {
		t.Errorf("%#v: %.200x of %.200x", what, s, x.Raw)
	}
	parsed(t, what, s, api.Seg{From: x.From, To: x.To, Flags: int(x.Raw[13]) % 64, Raw: s}, api.OK)
	if len(pseudo)%2 == 0 {
		fails(t, what, Check(s, pseudo), api.OK)
	}
}

// P6.1, P6.2: the chapter's examples.
func TestExamples(t *testing.T) {
	if s, e := Bytes(example(), ""); s != exampleBytes || e != nil {
		t.Errorf("%x, %v", s, e)
	}
	parsed(t, "19 bytes", exampleRaw[:19], api.Seg{}, api.ErrShort)
	parsed(t, "noughts", strings.Repeat("\x00", 20), api.Seg{}, api.ErrForm)
	asks(t, "From 65536", api.Seg{From: 65536, Raw: exampleRaw}, "", api.ErrRange)
}

// P6.1, P6.2: a segment in which every part says something, byte by byte, over IPv4 and over IPv6.
func TestEveryPart(t *testing.T) {
	for pseudo, inSum := range map[string]string{pseudo4: "\x35\x2c", pseudo6: "\xa5\xd9"} {
		want := "\x01\x02\xfd\xfeseq.ack.\x60\x12wi" + inSum + "up\x02\x04\x05\xb4data!"
		if s, e := Bytes(api.Seg{From: 0x0102, To: 0xfdfe, Raw: fullRaw}, pseudo); s != want || e != nil {
			t.Errorf("%x, %v, not %x", s, e, want)
		}
		fails(t, want, Check(want, pseudo), api.OK)
		parsed(t, want, want, api.Seg{From: 0x0102, To: 0xfdfe, Flags: api.Syn | api.Ack, Raw: want}, api.OK)
	}
	parsed(t, "whatever its sum", fullRaw, api.Seg{From: 0x1234, To: 0xfedc, Flags: api.Syn | api.Ack, Raw: fullRaw}, api.OK)
}

// P6.1: texts of fewer than 20 bytes are short, whatever their n says, and whether there is one; those of 20 and more are not.
func TestShort(t *testing.T) {
	for n := range 20 {
		for _, words := range []byte{0x00, 0x40, 0x50, 0xf0} {
			s := with(exampleRaw, 12, words)[:n]
			parsed(t, []any{n, words}, s, api.Seg{}, api.ErrShort)
			asks(t, []any{n, words}, api.Seg{From: -1, Raw: s}, "", api.ErrShort)
		}
	}
	for n := 20; n < 90; n++ {
		s := (exampleBytes + strings.Repeat("d", 70))[:n]
		parsed(t, n, s, api.Seg{From: 1, To: 2, Raw: s}, api.OK)
	}
}

// P6.1: every n with texts of every length about it: below 5 it is no form, and of more words than there are bytes of it is short.
func TestWords(t *testing.T) {
	long := exampleBytes + strings.Repeat("o", 60)
	for n := range 16 {
		for _, low := range []byte{0x00, 0x01, 0x0f} {
			for length := 20; length <= len(long); length++ {
				s := with(long[:length], 12, byte(n)<<4|low)
				want, code := api.Seg{From: 1, To: 2, Raw: s}, api.OK
				if n < 5 {
					want, code = api.Seg{}, api.ErrForm
				} else if length < 4*n {
					want, code = api.Seg{}, api.ErrShort
				}
				parsed(t, []any{n, low, length}, s, want, code)
				asks(t, []any{n, low, length}, api.Seg{From: 7, To: 8, Raw: s}, pseudo4, code)
			}
		}
	}
	most := with(long, 12, 0xf0)
	parsed(t, "15 words", most[:60], api.Seg{From: 1, To: 2, Raw: most[:60]}, api.OK)
	parsed(t, "15 words, a byte too few", most[:59], api.Seg{}, api.ErrShort)
	parsed(t, "4 words", with(most, 12, 0x4f), api.Seg{}, api.ErrForm)
	parsed(t, "5 words", with(exampleBytes, 12, 0x5f), api.Seg{From: 1, To: 2, Raw: with(exampleBytes, 12, 0x5f)}, api.OK)
	parsed(t, "6 words, of 5", with(exampleBytes, 12, 0x60), api.Seg{}, api.ErrShort)
}

// P6.1: every byte of flags: its lowest six bits are flags, the two above them are none.
func TestFlags(t *testing.T) {
	for x := range 256 {
		s := with(exampleBytes, 13, byte(x))
		parsed(t, x, s, api.Seg{From: 1, To: 2, Flags: x & 63, Raw: s}, api.OK)
		// A bit of the byte ahead of it and of the one behind it is none either.
		s = with(s, 12, 0x5f, byte(x), 0xff)
		parsed(t, x, s, api.Seg{From: 1, To: 2, Flags: x & 63, Raw: s}, api.OK)
		back(t, x, api.Seg{From: 3, To: 4, Raw: s}, pseudo4)
	}
	for name, x := range map[string]struct {
		at   byte
		flag int
	}{
		"Fin": {1, api.Fin}, "Syn": {2, api.Syn}, "Rst": {4, api.Rst}, "Ack": {16, api.Ack},
		"all": {63, 63}, "none, with both above": {192, 0}, "all, with both above": {255, 63},
	} {
		s := with(exampleBytes, 13, x.at)
		parsed(t, name, s, api.Seg{From: 1, To: 2, Flags: x.flag, Raw: s}, api.OK)
	}
}

// P6.2: Flags that x has do not count, whatever they are; what Raw says stays.
func TestOwnFlags(t *testing.T) {
	for _, flags := range []int{0, api.Fin, api.Syn, api.Rst, api.Ack, 18, 63, 64, 255, 256, -1, math.MaxInt, math.MinInt} {
		x := example()
		x.Flags = flags
		if s, e := Bytes(x, ""); s != exampleBytes || e != nil {
			t.Errorf("%d: %x, %v", flags, s, e)
		}
		back(t, flags, x, pseudo4)
		back(t, flags, api.Seg{From: 5, To: 6, Flags: flags, Raw: fullRaw}, pseudo6)
	}
}

// P6.1: each port that stands in a text, at its bounds.
func TestParsedPorts(t *testing.T) {
	for _, x := range []int{0, 1, 127, 128, 255, 256, 0x1234, 32767, 32768, 65534, 65535} {
		high, low := byte(x>>8), byte(x)
		from, to := with(exampleBytes, 0, high, low), with(exampleBytes, 2, high, low)
		parsed(t, []any{"From", x}, from, api.Seg{From: x, To: 2, Raw: from}, api.OK)
		parsed(t, []any{"To", x}, to, api.Seg{From: 1, To: x, Raw: to}, api.OK)
	}
}

// P6.2: each port at its bounds, and beyond.
func TestPorts(t *testing.T) {
	for name, part := range map[string]func(x *api.Seg) *int{
		"From": func(x *api.Seg) *int { return &x.From },
		"To":   func(x *api.Seg) *int { return &x.To },
	} {
		for _, raw := range []string{exampleRaw, fullRaw} {
			for _, port := range []int{0, 1, 255, 256, 32767, 32768, 65534, 65535} {
				x := api.Seg{From: 1, To: 2, Raw: raw}
				*part(&x) = port
				asks(t, []any{name, port}, x, pseudo4, api.OK)
				back(t, []any{name, port}, x, pseudo4)
			}
			for _, port := range []int{-1, 65536, -256, -65535, -65536, 65537, 1 << 17, 1 << 32, -1 << 32, math.MaxInt, math.MinInt} {
				x := api.Seg{From: 1, To: 2, Raw: raw}
				*part(&x) = port
				asks(t, []any{name, port}, x, pseudo4, api.ErrRange)
			}
		}
	}
	asks(t, "both beyond", api.Seg{From: -1, To: 65536, Raw: exampleRaw}, "", api.ErrRange)
}

// P6.2: of several errors Raw's is told first, and of Raw's the first one.
func TestWhichErrorOfBytes(t *testing.T) {
	for name, x := range map[string]struct {
		raw  string
		code api.Errno
	}{
		"nothing":                       {"", api.ErrShort},
		"19 bytes":                      {exampleRaw[:19], api.ErrShort},
		"19 bytes, 4 words":             {with(exampleRaw, 12, 0x40)[:19], api.ErrShort},
		"20 bytes, 4 words":             {with(exampleRaw, 12, 0x40), api.ErrForm},
		"20 bytes, none":                {with(exampleRaw, 12, 0x0f), api.ErrForm},
		"20 bytes, 6 words":             {with(exampleRaw, 12, 0x60), api.ErrShort},
		"right bytes, though wrong sum": {exampleRaw, api.ErrRange},
		"right bytes and sum":           {exampleBytes, api.ErrRange},
	} {
		for _, ports := range [][2]int{{-1, 2}, {1, 65536}, {65536, -1}, {math.MaxInt, math.MinInt}} {
			asks(t, name, api.Seg{From: ports[0], To: ports[1], Flags: -1, Raw: x.raw}, pseudo4, x.code)
		}
	}
}

// P6.1: of several errors of Check the text's is told ahead of its sum's.
func TestWhichErrorOfCheck(t *testing.T) {
	fails(t, "right", Check(exampleBytes, ""), api.OK)
	fails(t, "wrong sum", Check(exampleRaw, ""), api.ErrSum)
	for name, x := range map[string]struct {
		s     string
		right bool
		code  api.Errno
	}{
		"nothing":                      {"", false, api.ErrShort},
		"19 bytes, right":              {exampleBytes[:19], true, api.ErrShort},
		"19 bytes, wrong":              {exampleRaw[:19], false, api.ErrShort},
		"4 words, right":               {with(with(exampleBytes, 12, 0x40), 16, 0xbf), true, api.ErrForm},
		"4 words, wrong":               {with(exampleRaw, 12, 0x40), false, api.ErrForm},
		"6 words of 5, right":          {with(with(exampleBytes, 12, 0x60), 16, 0x9f), true, api.ErrShort},
		"6 words of 5, wrong":          {with(exampleRaw, 12, 0x60), false, api.ErrShort},
		"all bits, one word too short": {strings.Repeat("\xff", 56), true, api.ErrShort},
	} {
		if right := plainSum(x.s) == 0; right != x.right {
			t.Errorf("%s: it is right: %v", name, right)
		}
		fails(t, name, Check(x.s, ""), x.code)
		fails(t, name, Check(x.s, "\xff\xff"), x.code)
	}
}

// P6.2: a sum that comes to 0 is written as 0, and no other sum in its place; the sums beside that as they are.
func TestSumOf0(t *testing.T) {
	for name, x := range map[string]struct {
		x      api.Seg
		pseudo string
		want   string
	}{
		"by a port":             {api.Seg{From: 0xafff, Raw: exampleRaw}, "", "\x00\x00"},
		"by the other port":     {api.Seg{To: 0xafff, Raw: exampleRaw}, "", "\x00\x00"},
		"by data":               {api.Seg{Raw: exampleRaw + "\xaf\xff"}, "", "\x00\x00"},
		"by data, twice 65535":  {api.Seg{From: 0xffff, Raw: exampleRaw + "\xaf\xff"}, "", "\x00\x00"},
		"by a single byte":      {api.Seg{From: 0x00ff, Raw: exampleRaw + "\xaf"}, "", "\x00\x00"},
		"by what is not sent":   {api.Seg{Raw: exampleRaw}, "\xaf\xff", "\x00\x00"},
		"one less":              {api.Seg{From: 0xaffe, Raw: exampleRaw}, "", "\x00\x01"},
		"one more":              {api.Seg{From: 0xb000, Raw: exampleRaw}, "", "\xff\xfe"},
		"one more by data":      {api.Seg{Raw: exampleRaw + "\xb0\x00"}, "", "\xff\xfe"},
		"one less, twice 65535": {api.Seg{From: 0xffff, Raw: exampleRaw + "\xaf\xfe"}, "", "\x00\x01"},
	} {
		s, e := Bytes(x.x, x.pseudo)
		if e != nil || len(s) != len(x.x.Raw) || s[16:18] != x.want {
			t.Errorf("%s: %x, %v", name, s, e)
		}
		asks(t, name, x.x, x.pseudo, api.OK)
		back(t, name, x.x, x.pseudo)
	}
}

// P6.2: of the sums of every port just one comes to 0; none is written as 65535, since n says too much for that.
func TestSumOfEveryPort(t *testing.T) {
	zeros := 0
	for from := range 65536 {
		x := api.Seg{From: from, To: 7, Raw: fullRaw}
		s, e := Bytes(x, pseudo4)
		if want, _ := plainBytes(x, pseudo4); e != nil || s != want || s[16:18] == "\xff\xff" || Check(s, pseudo4) != nil {
			t.Fatalf("%d: %x, %v", from, s, e)
		}
		if s[16:18] == "\x00\x00" {
			zeros++
		}
	}
	if zeros != 1 {
		t.Errorf("%d sums of 0", zeros)
	}
}

// P6.1: of every sum that stands in a text, which one is right: one by one, but 0 and 65535, which are right together.
func TestEverySum(t *testing.T) {
	for inSum := range 65536 {
		high, low := byte(inSum>>8), byte(inSum)
		want := api.ErrSum
		if inSum == 0xaffc {
			want = api.OK
		}
		fails(t, inSum, Check(with(exampleBytes, 16, high, low), ""), want)
		want = api.ErrSum
		if inSum == 0 || inSum == 65535 {
			want = api.OK
		}
		fails(t, []any{inSum, "of 0"}, Check(with(with(exampleRaw, 0, 0xaf, 0xff), 16, high, low), ""), want)
	}
}

// P6.2: the sum that stands in Raw does not count, nor do its ports.
func TestWhatStoodThere(t *testing.T) {
	for _, there := range []int{0, 1, 255, 256, 0xaffc, 0xfffe, 65535} {
		high, low := byte(there>>8), byte(there)
		for _, at := range []int{0, 2, 16} {
			x := example()
			x.Raw = with(x.Raw, at, high, low)
			if s, e := Bytes(x, ""); s != exampleBytes || e != nil {
				t.Errorf("%d at %d: %x, %v", there, at, s, e)
			}
		}
	}
	s, _ := Bytes(api.Seg{From: 1, To: 2, Raw: fullRaw}, pseudo4)
	if again, e := Bytes(api.Seg{From: 1, To: 2, Raw: s}, pseudo4); again != s || e != nil {
		t.Errorf("again: %x, %v, not %x", again, e, s)
	}
}

// P6.2, P6.3: the sum is of what is not sent and what is, one behind the other, of whatever length the first is.
func TestPseudoLengths(t *testing.T) {
	for pseudo, inSum := range map[string]string{"": "\xaf\xfc", "\x01": "\xfb\xaf", "\x01\x00": "\xae\xfc", "\x00": "\xfc\xaf"} {
		want := exampleBytes[:16] + inSum + exampleBytes[18:]
		if s, e := Bytes(example(), pseudo); s != want || e != nil {
			t.Errorf("%x: %x, %v, not %x", pseudo, s, e, want)
		}
	}
	for n := range len(pseudo6) + 1 {
		for _, data := range []string{"", "o", "ev", "odd"} {
			x := api.Seg{From: 0x8001, To: 0x4002, Raw: exampleRaw + data}
			asks(t, []any{n, data}, x, pseudo6[:n], api.OK)
			back(t, []any{n, data}, x, pseudo6[:n])
		}
	}
	back(t, "a long one", example(), strings.Repeat("\xff", 1<<17))
}

// P6.2, P6.3: heads of every length with data of odd and even lengths, and more of it than a packet has.
func TestDataLengths(t *testing.T) {
	for n := 5; n < 16; n++ {
		head := with(exampleRaw+strings.Repeat("o", 4*n-20), 12, byte(n)<<4)
		for _, data := range []int{0, 1, 2, 3, 255, 256, 1001, 65475, 65515, 65516, api.MaxBytes, 1 << 17} {
			for _, pseudo := range []string{"", pseudo4, pseudo6} {
				x := api.Seg{From: 80, To: 1024, Raw: head + strings.Repeat("\xd7", data)}
				asks(t, []any{n, data}, x, pseudo, api.OK)
				back(t, []any{n, data}, x, pseudo)
			}
		}
	}
}

// P6.1: heads that are not sent, of no, odd and even numbers of bytes; with them a text has to be right.
func TestCheckedWithPseudo(t *testing.T) {
	right4, _ := plainBytes(api.Seg{From: 1, To: 2, Raw: fullRaw}, pseudo4)
	right6, _ := plainBytes(api.Seg{From: 1, To: 2, Raw: fullRaw}, pseudo6)
	for _, x := range []struct {
		s, pseudo string
		code      api.Errno
	}{
		{exampleBytes, "", api.OK},
		{exampleBytes, "\x00\x00", api.OK},
		{exampleBytes, "\xff\xff", api.OK},
		{exampleBytes, "\x00\x01", api.ErrSum},
		{exampleBytes, "\x01", api.ErrSum},
		{right4, pseudo4, api.OK},
		{right6, pseudo6, api.OK},
		{right4, pseudo6, api.ErrSum},
		{right6, pseudo4, api.ErrSum},
		{right4, "", api.ErrSum},
		{right4, pseudo4[:10] + "\x00\x1e", api.ErrSum},
		{right4, pseudo4 + "\x00\x00", api.OK},
		// Behind an odd one the bytes of a segment pair otherwise; all bytes change their places in the words, which leaves right what was.
		{exampleBytes, "\x00", api.OK},
		{"\x00\x01\x00\x02" + strings.Repeat("\x00", 8) + "\x50\x00\x00\x00\xae\xfc\x00\x00", "\x01\x00", api.OK},
		{"\x00\x01\x00\x02" + strings.Repeat("\x00", 8) + "\x50\x00\x00\x00\xaf\xfb\x00\x00", "\x01", api.OK},
		{"\x00\x01\x00\x02" + strings.Repeat("\x00", 8) + "\x50\x00\x00\x00\xfb\xaf\x00\x00", "\x01", api.ErrSum},
	} {
		fails(t, []any{x.s, x.pseudo}, Check(x.s, x.pseudo), x.code)
		if c := plainCheck(x.s, x.pseudo); c != x.code {
			t.Errorf("%x, %x: the chapter says %d, not %d", x.s, x.pseudo, c, x.code)
		}
	}
}

// P6.3: a bit that is turned, in each part, is told by Check, by the form if n no longer fits, and else by the sum.
func TestTurnedBits(t *testing.T) {
	told := map[api.Errno]int{}
	for _, x := range []api.Seg{
		example(), {From: 65535, To: 65535, Raw: exampleRaw + "odd"}, {From: 0xafff, Raw: exampleRaw}, {From: 0xaffe, Raw: exampleRaw},
		{From: 53, To: 1024, Raw: fullRaw}, {To: 0x7ff7, Raw: with(exampleRaw+strings.Repeat("opt.", 10), 12, 0xff, 0xff)},
		{From: 1, To: 2, Raw: with(exampleRaw+strings.Repeat("long", 60), 12, 0x80)},
	} {
		for _, pseudo := range []string{"", "\x00\x00", pseudo4, pseudo6} {
			s, _ := Bytes(x, pseudo)
			fails(t, s, Check(s, pseudo), api.OK)
			for bit := range 8 * len(s) {
				turned := with(s, bit/8, s[bit/8]^1<<(bit%8))
				want := api.ErrSum
				if _, c := plainParse(turned); c != api.OK {
					want = c
				}
				fails(t, []any{s, pseudo, bit}, Check(turned, pseudo), want)
				told[want]++
			}
		}
	}
	for _, c := range []api.Errno{api.ErrForm, api.ErrShort, api.ErrSum} {
		if told[c] == 0 {
			t.Errorf("no turned bit was told by %d", c)
		}
	}
}

// P6.1 to P6.3: segments of chance, and heads of chance that are not sent.
func TestOfWhatever(t *testing.T) {
	chance := rand.New(rand.NewSource(6))
	text := func(least, most int) string {
		b := make([]byte, least+chance.Intn(most-least))
		chance.Read(b)
		return string(b)
	}
	for range 5000 {
		x := api.Seg{From: chance.Intn(65536), To: chance.Intn(65536), Flags: chance.Int() - chance.Int(), Raw: text(20, 90)}
		pseudo := text(0, 50)
		want, code := plainParse(x.Raw)
		parsed(t, x.Raw, x.Raw, want, code)
		asks(t, x, x, pseudo, code)
		if code == api.OK {
			back(t, x, x, pseudo)
			s, _ := plainBytes(x, pseudo)
			fails(t, []any{s, pseudo}, Check(s, pseudo), plainCheck(s, pseudo))
		}
	}
}

// R3: a call's answer hangs on nothing that an earlier one left, nor on what was done to its fault.
func TestFaultsAreNew(t *testing.T) {
	calls := map[string]struct {
		do   func() error
		code api.Errno
	}{
		"Parse, short": {func() error { _, e := Parse(""); return e }, api.ErrShort},
		"Parse, form":  {func() error { _, e := Parse(strings.Repeat("\x00", 20)); return e }, api.ErrForm},
		"Check, of it": {func() error { return Check("", "") }, api.ErrShort},
		"Check, sum":   {func() error { return Check(exampleBytes, pseudo4) }, api.ErrSum},
		"Bytes, form":  {func() error { _, e := Bytes(api.Seg{Raw: strings.Repeat("\x4f", 60)}, ""); return e }, api.ErrForm},
		"Bytes, range": {func() error { _, e := Bytes(api.Seg{To: -1, Raw: exampleRaw}, ""); return e }, api.ErrRange},
	}
	for name, x := range calls {
		fails(t, name, x.do(), x.code)
		*num.Only(x.do()) = num.Fault{Code: api.ErrWord, At: 9}
		fails(t, name+", again", x.do(), x.code)
	}
}

// FuzzParse is P6.1, P6.2, and P6.3 the other way about, of whatever text and head that is not sent.
func FuzzParse(f *testing.F) {
	f.Add("", "")
	f.Add(exampleBytes, "")
	f.Add(fullRaw, pseudo4)
	f.Add(fullRaw, pseudo6[:39])
	f.Add(exampleRaw, "\xaf\xff")
	f.Add(with(exampleRaw, 12, 0x40), "\x01")
	f.Add(strings.Repeat("\xff", 60), "")
	f.Fuzz(func(t *testing.T, s, pseudo string) {
		want, code := plainParse(s)
		parsed(t, s, s, want, code)
		fails(t, []any{s, pseudo}, Check(s, pseudo), plainCheck(s, pseudo))
		if code == api.OK {
			asks(t, s, want, pseudo, api.OK)
			back(t, s, want, pseudo)
		}
	})
}
