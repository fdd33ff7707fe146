package class

import (
	"fmt"
	"math"
	"math/rand"
	"net/netip"
	"regexp"
	"strconv"
	"strings"
	"testing"
	"unicode/utf8"

	"interpreter/api"
)

// The words' shapes, as the chapter tells them.
var (
	fourShape = regexp.MustCompile(`\A(0|[1-9][0-9]*)\.(0|[1-9][0-9]*)\.(0|[1-9][0-9]*)\.(0|[1-9][0-9]*)\z`)
	sixShape  = regexp.MustCompile(`\A[0-9a-fA-F]{1,4}(:[0-9a-fA-F]{1,4}){7}\z`)
	lenShape  = regexp.MustCompile(`\A(0|[1-9][0-9]*)\z`)
)

// plainNumber is a number that is written, if it is at most so great.
func plainNumber(s string, most int) (int, bool) {
	if !lenShape.MatchString(s) || len(s) > 9 {
		return 0, false
	}
	n, e := strconv.Atoi(s)
	return n, e == nil && n <= most
}

// plainParse4 is what Parse4 has to answer, as the chapter says it.
func plainParse4(s string) (api.V4, bool) {
	m := fourShape.FindStringSubmatch(s)
	if m == nil {
		return api.V4{}, false
	}
	var a api.V4
	for i, w := range m[1:] {
		n, ok := plainNumber(w, 255)
		if !ok {
			return api.V4{}, false
		}
		a[i] = byte(n)
	}
	return a, true
}

// plainParse6 is what Parse6 has to answer, as the chapter says it: eight groups, or what becomes eight groups when noughts are written for two colons.
func plainParse6(s string) (api.V6, bool) {
	if sixShape.MatchString(s) {
		var a api.V6
		for i, w := range strings.Split(s, ":") {
			n, _ := strconv.ParseUint(w, 16, 16)
			a[2*i], a[2*i+1] = byte(n>>8), byte(n)
		}
		return a, true
	}
	if len(s) > 60 {
		return api.V6{}, false
	}
	for at := range len(s) {
		if !strings.HasPrefix(s[at:], "::") {
			continue
		}
		for n := 1; n <= 8; n++ {
			full := strings.Trim(strings.Repeat(":0", n), ":")
			if at > 0 {
				full = s[:at] + ":" + full
			}
			if at+2 < len(s) {
				full += ":" + s[at+2:]
			}
			if sixShape.MatchString(full) {
				return plainParse6(full)
			}
		}
	}
	return api.V6{}, false
}

// plainText6 is what Text6 has to answer, as the chapter says it: each run is tried, the longest ones first, of these the first one first.
func plainText6(a api.V6) string {
	var words []string
	for i := 0; i < 16; i += 2 {
		words = append(words, fmt.Sprintf("%x", int(a[i])<<8|int(a[i+1])))
	}
	for n := 8; n >= 2; n-- {
		for from := 0; from+n <= 8; from++ {
			if noughts(words[from : from+n]) {
				return strings.Join(words[:from], ":") + "::" + strings.Join(words[from+n:], ":")
			}
		}
	}
	return strings.Join(words, ":")
}

// noughts says whether each of some groups is a nought.
func noughts(words []string) bool {
	for _, w := range words {
		if w != "0" {
			return false
		}
	}
	return true
}

// bit is one of an address, the highest of the first byte being 0.
func bit(x []byte, i int) bool { return x[i/8]>>(7-i%8)&1 == 1 }

// plainMay is whether a prefix may be, bit by bit.
func plainMay(x []byte, bits int) bool {
	if bits < 0 || bits > 8*len(x) {
		return false
	}
	for i := bits; i < 8*len(x); i++ {
		if bit(x, i) {
			return false
		}
	}
	return true
}

// plainHolds is whether a prefix holds an address, bit by bit.
func plainHolds(x []byte, bits int, y []byte) bool {
	if !plainMay(x, bits) {
		return false
	}
	for i := range bits {
		if bit(x, i) != bit(y, i) {
			return false
		}
	}
	return true
}

// plainParseNet4 is what ParseNet4 has to answer, as the chapter says it.
func plainParseNet4(s string) (api.Net4, bool) {
	w := strings.Split(s, "/")
	if len(w) != 2 {
		return api.Net4{}, false
	}
	a, is := plainParse4(w[0])
	n, ok := plainNumber(w[1], 32)
	if !is || !ok || !plainMay(a[:], n) {
		return api.Net4{}, false
	}
	return api.Net4{Addr: a, Len: n}, true
}

// plainParseNet6 is what ParseNet6 has to answer, as the chapter says it.
func plainParseNet6(s string) (api.Net6, bool) {
	w := strings.Split(s, "/")
	if len(w) != 2 {
		return api.Net6{}, false
	}
	a, is := plainParse6(w[0])
	n, ok := plainNumber(w[1], 128)
	if !is || !ok || !plainMay(a[:], n) {
		return api.Net6{}, false
	}
	return api.Net6{Addr: a, Len: n}, true
}

// plainMartian4 is what Martian4 has to answer, by the ranges' ends.
func plainMartian4(a api.V4) bool {
	return a[0] == 0 || a[0] == 127 || a[0] == 169 && a[1] == 254 || a[0] >= 224
}

// plainPrivate is whether an address is private, by the ranges' ends.
func plainPrivate(a api.V4) bool {
	return a[0] == 10 || a[0] == 172 && a[1] >= 16 && a[1] <= 31 || a[0] == 192 && a[1] == 168 || a[0] == 100 && a[1] >= 64 && a[1] <= 127
}

// plainMartian6 is what Martian6 has to answer, by the ranges' ends.
func plainMartian6(a api.V6) bool {
	x := netip.AddrFrom16(a)
	return x.IsUnspecified() || x.IsLoopback() || x.Is4In6() || x.IsLinkLocalUnicast() || x.IsMulticast()
}

// plainKnown is whether a prefix is the well-known one.
func plainKnown(p api.Net6) bool {
	return p.Len == 96 && netip.AddrFrom16(p.Addr) == netip.MustParseAddr("64:ff9b::")
}

// four is an IPv4 address, from how it is written.
func four(s string) api.V4 { return netip.MustParseAddr(s).As4() }

// six is an IPv6 address, from how it is written.
func six(s string) api.V6 { return netip.MustParseAddr(s).As16() }

// net4 is a prefix of an address that is written.
func net4(s string, bits int) api.Net4 { return api.Net4{Addr: four(s), Len: bits} }

// net6 is a prefix of an address that is written.
func net6(s string, bits int) api.Net6 { return api.Net6{Addr: six(s), Len: bits} }

// turned4 is an IPv4 address with one of its bits turned.
func turned4(a api.V4, i int) api.V4 {
	a[i/8] ^= 0x80 >> (i % 8)
	return a
}

// turned6 is an IPv6 address with one of its bits turned.
func turned6(a api.V6, i int) api.V6 {
	a[i/8] ^= 0x80 >> (i % 8)
	return a
}

// head is a text's beginning, for what a test tells.
func head(s string) string {
	if len(s) > 80 {
		return s[:80] + "..."
	}
	return s
}

// reads4 asks which IPv4 address a text's is, holding it against the plain words; what is an address has a word, and is read from it.
func reads4(t *testing.T, s string, want api.V4, ok bool) {
	t.Helper()
	if a, is := plainParse4(s); a != want || is != ok {
		t.Errorf("%q: the chapter says %v, %v, not %v, %v", head(s), a, is, want, ok)
	}
	if x, e := netip.ParseAddr(s); (e == nil && x.Is4()) != ok {
		t.Errorf("%q: the library says %v", head(s), !ok)
	}
	if a, is := Parse4(s); a != want || is != ok {
		t.Errorf("%q: %v, %v, not %v, %v", head(s), a, is, want, ok)
	}
	if ok {
		writes4(t, want, s)
	}
	n, is := ParseNet4(s + "/32")
	if is != ok || ok && n != (api.Net4{Addr: want, Len: 32}) || !ok && n != (api.Net4{}) {
		t.Errorf("%q/32: %v, %v", head(s), n, is)
	}
}

// writes4 asks for an IPv4 address's word, and reads it again.
func writes4(t *testing.T, a api.V4, want string) {
	t.Helper()
	if s := Text4(a); s != want || s != netip.AddrFrom4(a).String() {
		t.Errorf("%v: %q, not %q", a, s, want)
	}
	if b, ok := Parse4(want); b != a || !ok {
		t.Errorf("%q: %v, %v, not %v", want, b, ok, a)
	}
}

// reads6 asks which IPv6 address a text's is, holding it against the plain words; what is an address has a word, and is read from it.
func reads6(t *testing.T, s string, want api.V6, ok bool) {
	t.Helper()
	if a, is := plainParse6(s); a != want || is != ok {
		t.Errorf("%q: the chapter says %x, %v, not %x, %v", head(s), a, is, want, ok)
	}
	if x, e := netip.ParseAddr(s); (e == nil && !strings.ContainsAny(s, ".%")) != ok || ok && x.As16() != want {
		t.Errorf("%q: the library says %v, %v", head(s), x, e)
	}
	if a, is := Parse6(s); a != want || is != ok {
		t.Errorf("%q: %x, %v, not %x, %v", head(s), a, is, want, ok)
	}
	if ok {
		writes6(t, want, plainText6(want))
	}
	n, is := ParseNet6(s + "/128")
	if is != ok || ok && n != (api.Net6{Addr: want, Len: 128}) || !ok && n != (api.Net6{}) {
		t.Errorf("%q/128: %v, %v", head(s), n, is)
	}
}

// writes6 asks for an IPv6 address's own word, and reads it again.
func writes6(t *testing.T, a api.V6, want string) {
	t.Helper()
	if s := plainText6(a); s != want {
		t.Errorf("%x: the chapter says %q, not %q", a, s, want)
	}
	if x := netip.AddrFrom16(a); !x.Is4In6() && x.String() != want {
		t.Errorf("%x: the library says %q, not %q", a, x, want)
	}
	if s := Text6(a); s != want {
		t.Errorf("%x: %q, not %q", a, s, want)
	}
	if b, ok := Parse6(want); b != a || !ok {
		t.Errorf("%q: %x, %v, not %x", want, b, ok, a)
	}
}

// prefix4 asks which prefix of IPv4's a text's is, holding it against the plain words.
func prefix4(t *testing.T, s string, want api.Net4, ok bool) {
	t.Helper()
	if n, is := plainParseNet4(s); n != want || is != ok {
		t.Errorf("%q: the chapter says %v, %v, not %v, %v", head(s), n, is, want, ok)
	}
	if n, is := ParseNet4(s); n != want || is != ok {
		t.Errorf("%q: %v, %v, not %v, %v", head(s), n, is, want, ok)
	}
	if ok && !Holds4(want, want.Addr) {
		t.Errorf("%q does not hold its own address", s)
	}
}

// prefix6 asks which prefix of IPv6's a text's is, holding it against the plain words.
func prefix6(t *testing.T, s string, want api.Net6, ok bool) {
	t.Helper()
	if n, is := plainParseNet6(s); n != want || is != ok {
		t.Errorf("%q: the chapter says %v, %v, not %v, %v", head(s), n, is, want, ok)
	}
	if n, is := ParseNet6(s); n != want || is != ok {
		t.Errorf("%q: %v, %v, not %v, %v", head(s), n, is, want, ok)
	}
	if ok && !Holds6(want, want.Addr) {
		t.Errorf("%q does not hold its own address", s)
	}
}

// holds4 asks whether a prefix holds an IPv4 address, holding it against the plain words.
func holds4(t *testing.T, n api.Net4, a api.V4, want bool) {
	t.Helper()
	if plainHolds(n.Addr[:], n.Len, a[:]) != want {
		t.Errorf("%v, %v: the chapter says %v", n, a, !want)
	}
	if Holds4(n, a) != want {
		t.Errorf("%v, %v: Holds4 is %v", n, a, !want)
	}
}

// holds6 asks whether a prefix holds an IPv6 address, holding it against the plain words.
func holds6(t *testing.T, n api.Net6, a api.V6, want bool) {
	t.Helper()
	if plainHolds(n.Addr[:], n.Len, a[:]) != want {
		t.Errorf("%v, %x: the chapter says %v", n, a, !want)
	}
	if Holds6(n, a) != want {
		t.Errorf("%v, %x: Holds6 is %v", n, a, !want)
	}
}

// wellKnown is the well-known prefix, and others prefixes that are not it.
func wellKnown() api.Net6 { return net6("64:ff9b::", 96) }
func others() []api.Net6 {
	p := []api.Net6{{}, net6("2001:db8::", 96), net6("2001:db8::", 32), net6("64:ff9b:1::", 48), net6("64:ff9b:1::", 96), net6("64:ff9b::1", 96), net6("64:ff9a::", 96), net6("164:ff9b::", 96),
		net6("64:ff9b::", 95), net6("64:ff9b::", 97), net6("64:ff9b::", 32), net6("64:ff9b::", 64), net6("64:ff9b::", 128), net6("64:ff9b::", 0), net6("64:ff9b::", -96), net6("64:ff9b::", 96+256), net6("64:ff9b::", math.MaxInt)}
	for i := range 128 {
		p = append(p, api.Net6{Addr: turned6(six("64:ff9b::"), i), Len: 96})
	}
	return p
}

// classes4 asks for an IPv4 address's classes, holding them against the plain words: whether it is martian, and whether it is private is told by the well-known prefix alone.
func classes4(t *testing.T, a api.V4, martian, private bool) {
	t.Helper()
	if plainMartian4(a) != martian || plainPrivate(a) != private {
		t.Errorf("%v: the chapter says %v, %v", a, plainMartian4(a), plainPrivate(a))
	}
	if Martian4(a) != martian {
		t.Errorf("%v: Martian4 is %v", a, !martian)
	}
	if may := !martian && !private; May(wellKnown(), a) != may {
		t.Errorf("%v in the well-known prefix: May is %v", a, !may)
	}
	for _, p := range others() {
		if May(p, a) != !martian {
			t.Errorf("%v in %v: May is %v", a, p, martian)
		}
	}
}

// class6 asks whether an IPv6 address is martian, holding it against the plain words.
func class6(t *testing.T, a api.V6, martian bool) {
	t.Helper()
	if plainMartian6(a) != martian {
		t.Errorf("%x: the chapter says %v", a, !martian)
	}
	if Martian6(a) != martian {
		t.Errorf("%x: Martian6 is %v", a, !martian)
	}
}

// P10.1, P10.2: the chapter's examples, and the document's.
func TestExamples(t *testing.T) {
	for _, x := range []struct {
		groups [8]int
		want   string
	}{
		{[8]int{0x2001, 0xdb8, 0, 0, 1, 0, 0, 1}, "2001:db8::1:0:0:1"},
		{[8]int{}, "::"},
		{[8]int{0, 0, 1, 1, 1, 1, 1, 1}, "::1:1:1:1:1:1"},
		{[8]int{1, 0, 1, 1, 1, 1, 1, 1}, "1:0:1:1:1:1:1:1"},
	} {
		var a api.V6
		for i, g := range x.groups {
			a[2*i], a[2*i+1] = byte(g>>8), byte(g)
		}
		writes6(t, a, x.want)
	}
	reads6(t, "2001:db8:0:0:1:0:0:1", six("2001:db8::1:0:0:1"), true)
	reads6(t, "1::2::3", api.V6{}, false)
	reads6(t, "1:2:3:4:5:6:7::8", api.V6{}, false)
	reads4(t, "1.2.3.04", api.V4{}, false)
	reads4(t, "1.2.3.256", api.V4{}, false)
	prefix4(t, "10.0.0.0/8", api.Net4{Addr: api.V4{10}, Len: 8}, true)
	prefix4(t, "10.0.0.1/8", api.Net4{}, false)
	if May(wellKnown(), api.V4{10, 1, 2, 3}) {
		t.Error("10.1.2.3 may go through the well-known prefix")
	}
}

// P10.1: words of IPv4 addresses.
func TestParse4(t *testing.T) {
	for _, a := range []api.V4{{}, {1, 2, 3, 4}, {192, 0, 2, 33}, {255, 255, 255, 255}, {0, 255, 0, 255}, {9, 10, 99, 100}, {199, 200, 249, 250}, {1, 0, 0, 0}, {0, 0, 0, 1}} {
		reads4(t, fmt.Sprintf("%d.%d.%d.%d", a[0], a[1], a[2], a[3]), a, true)
	}
}

// P10.1: each number that may stand at each place is read, and none beyond 255.
func TestParse4Numbers(t *testing.T) {
	for at := range 4 {
		for n := range 1100 {
			w := []string{"1", "2", "3", "4"}
			w[at] = strconv.Itoa(n)
			a := api.V4{1, 2, 3, 4}
			a[at] = byte(n)
			if n > 255 {
				a = api.V4{}
			}
			reads4(t, strings.Join(w, "."), a, n <= 255)
		}
	}
}

// wrongNumbers are what is no number of an IPv4 address's word.
func wrongNumbers() []string {
	return []string{"", "00", "01", "000", "007", "0255", "0001", "256", "257", "260", "300", "512", "513", "999", "1000", "1024", "2550", "2555", "65536", "65537", "4294967296", "4294967297", "18446744073709551616", "18446744073709551617",
		strings.Repeat("1", 30), strings.Repeat("0", 30), strings.Repeat("0", 70000) + "1", strings.Repeat("9", 70000), "+1", "-1", "-0", "+0", " 1", "1 ", "1 1", "\t1", "1\n", "\n1", "1\x00", "\x001", "a", "f", "0x1", "1e1", "1_0", "1,0", "1:0", "1/0", "%31", "²",
		"١", "1٢", "１", "1１", "᠑", "𝟏", "і", "Ａ", "\xff", "1\xff", "\xff1", "\x80", "\xb1", "\xc0\xb1", "1\xe0\x80\xb1", "\xed\xa0\x80", "\U0010ffff", "\u2028", "\ufeff1", "\ufffd", "①", "½"}
}

// P10.1: what is no word of an IPv4 address.
func TestParse4Wrong(t *testing.T) {
	for _, w := range wrongNumbers() {
		for at := range 4 {
			words := []string{"1", "2", "3", "4"}
			words[at] = w
			reads4(t, strings.Join(words, "."), api.V4{}, false)
		}
	}
	for _, s := range []string{"", ".", "..", "...", "....", "1", "1.2", "1.2.3", "1.2.3.4.5", "1.2.3.4.5.6", "0", "255", "0.0.0", "0.0.0.0.0", ".1.2.3", "1.2.3.", ".1.2.3.4", "1.2.3.4.", "..1.2.3.4", "1.2.3.4..", "1..2.3", "1..2.3.4", "1.2..3.4", "1.2.3..4", "1.2..4", "1...4",
		" 1.2.3.4", "1.2.3.4 ", "1. 2.3.4", "1.2.3.4\n", "1.2.3.4\x00", "\x00", "1.2.3.4/32", "1.2.3.4%1", "1,2,3,4", "1。2。3。4", "1．2．3．4", "1:2:3:4", "::1.2.3.4", "::", "16909060", "0x01020304", "1.2.772", "x", strings.Repeat("1.", 70000), strings.Repeat(".", 70000), strings.Repeat("1", 70000), strings.Repeat("1.2.3.4", 10000), "1.2.3.4" + strings.Repeat(" ", 70000), "1.2.3.4" + strings.Repeat(".4", 70000)} {
		reads4(t, s, api.V4{}, false)
	}
}

// P10.1: words of IPv6 addresses, and not just their own ones.
func TestParse6(t *testing.T) {
	for s, want := range map[string]string{
		"1:2:3:4:5:6:7:8":                         "1:2:3:4:5:6:7:8",
		"0001:0020:0300:4000:0005:0060:0700:8000": "1:20:300:4000:5:60:700:8000",
		"ffff:FFFF:FfFf:fFfF:ffff:ffff:ffff:ffff": "ffff:ffff:ffff:ffff:ffff:ffff:ffff:ffff",
		"abcd:ef01:2345:6789:ABCD:EF01:2345:6789": "abcd:ef01:2345:6789:abcd:ef01:2345:6789",
		"2001:DB8::Ab":                            "2001:db8::ab",
		"::":                                      "::",
		"0::":                                     "::",
		"::0":                                     "::",
		"0::0":                                    "::",
		"0:0:0:0:0:0:0:0":                         "::",
		"0000:0000:0000:0000:0000:0000:0000:0000": "::",
		"0:0:0:0:0:0:0::":                         "::",
		"::0:0:0:0:0:0:0":                         "::",
		"0:0:0::0:0:0:0":                          "::",
		"::1":                                     "::1",
		"1::":                                     "1::",
		"1::8":                                    "1::8",
		"1::7:8":                                  "1::7:8",
		"1:2::8":                                  "1:2::8",
		"::2:3:4:5:6:7:8":                         "0:2:3:4:5:6:7:8",
		"1::3:4:5:6:7:8":                          "1:0:3:4:5:6:7:8",
		"1:2::4:5:6:7:8":                          "1:2:0:4:5:6:7:8",
		"1:2:3::5:6:7:8":                          "1:2:3:0:5:6:7:8",
		"1:2:3:4::6:7:8":                          "1:2:3:4:0:6:7:8",
		"1:2:3:4:5::7:8":                          "1:2:3:4:5:0:7:8",
		"1:2:3:4:5:6::8":                          "1:2:3:4:5:6:0:8",
		"1:2:3:4:5:6:7::":                         "1:2:3:4:5:6:7:0",
		"::3:4:5:6:7:8":                           "::3:4:5:6:7:8",
		"1:2:3:4:5:6::":                           "1:2:3:4:5:6::",
		"1:2:3:4::":                               "1:2:3:4::",
		"::5:6:7:8":                               "::5:6:7:8",
		"::ffff:c000:221":                         "::ffff:c000:221",
		"64:FF9B::":                               "64:ff9b::",
		"fe80::1":                                 "fe80::1",
		"0::1:0":                                  "::1:0",
		"0:1::":                                   "0:1::",
	} {
		a, ok := plainParse6(want)
		if !ok || plainText6(a) != want {
			t.Fatalf("%q is not its address's own word", want)
		}
		reads6(t, s, a, true)
		writes6(t, a, want)
	}
}

// P10.1: each group that may be, written in all its ways, is read at each place.
func TestParse6Groups(t *testing.T) {
	for n := 0; n < 1<<16; n += 1 + n/64 {
		for _, shape := range []string{"%x", "%X", "%02x", "%03X", "%04x", "%04X"} {
			g := fmt.Sprintf(shape, n)
			at := n % 8
			words := []string{"1", "2", "3", "4", "5", "6", "7", "8"}
			words[at] = g
			a := six("1:2:3:4:5:6:7:8")
			a[2*at], a[2*at+1] = byte(n>>8), byte(n)
			reads6(t, strings.Join(words, ":"), a, true)
		}
	}
}

// P10.1: so many groups ahead of two colons and behind are an address's if there are seven at most together, and without colons if there are eight.
func TestParse6Gaps(t *testing.T) {
	for front := range 12 {
		for back := range 12 {
			var ahead, behind []string
			var want api.V6
			ok := front+back <= 7
			for i := range front {
				ahead = append(ahead, fmt.Sprintf("%x", i+1))
				if ok {
					want[2*i+1] = byte(i + 1)
				}
			}
			for i := range back {
				behind = append(behind, fmt.Sprintf("a%x", i))
				if ok {
					at := 2 * (8 - back + i)
					want[at+1] = byte(0xa0 + i)
				}
			}
			reads6(t, strings.Join(ahead, ":")+"::"+strings.Join(behind, ":"), want, ok)
			reads6(t, strings.Join(ahead, ":")+":::"+strings.Join(behind, ":"), api.V6{}, false)
			reads6(t, strings.Join(ahead, ":")+"::::"+strings.Join(behind, ":"), api.V6{}, false)
			reads6(t, strings.Join(ahead, ":")+"::0::"+strings.Join(behind, ":"), api.V6{}, false)
		}
	}
	for n := range 20 {
		s := strings.Join(strings.Split(strings.Repeat("1", n), ""), ":")
		var want api.V6
		if n == 8 {
			want = six("1:1:1:1:1:1:1:1")
		}
		reads6(t, s, want, n == 8)
		if n > 0 {
			reads6(t, s+":", api.V6{}, false)
			reads6(t, ":"+s, api.V6{}, false)
		}
	}
}

// wrongGroups are what is no group of an IPv6 address's word.
func wrongGroups() []string {
	return []string{"00000", "00001", "12345", "fffff", "ffff0", "0ffff", "10000", "100000000", "100000001", "10000000000000001", strings.Repeat("0", 70000), strings.Repeat("f", 70000), "g", "G", "1g", "g1", "z", "Z", "@", "`", "x", "0x1", "/", ";", "h", "-1", "+1", " 1", "1 ", "1 1", "\t1", "1\n", "\n1", "1\x00", "\x00", "\x001", "1.2.3.4", "1.2", "1%1", "%", "[1", "1]", "_1",
		"١", "1٢", "１", "ａ", "Ａ", "1ａ", "а", "𝟏", "\xff", "1\xff", "\xff1", "\x80", "\xe1", "\xc1\xa1", "1\xe0\x80\xb1", "\xed\xa0\x80", "\U0010ffff", "\ufeff1", "\ufffd", "①", "ß"}
}

// P10.1: what is no word of an IPv6 address.
func TestParse6Wrong(t *testing.T) {
	for _, w := range wrongGroups() {
		for at := range 8 {
			words := []string{"1", "2", "3", "4", "5", "6", "7", "8"}
			words[at] = w
			reads6(t, strings.Join(words, ":"), api.V6{}, false)
		}
		for _, s := range []string{w, w + "::", "::" + w, "1::" + w, w + "::1", "1::" + w + ":8", "1:" + w + "::8", "::" + w + "::"} {
			reads6(t, s, api.V6{}, false)
		}
	}
	for _, s := range []string{"", ":", ":::", "::::", ":::::", "::::::::", "0", "1", "ffff", "1:", ":1", "1:2", ":1:2:3:4:5:6:7", "1:2:3:4:5:6:7:", ":1:2:3:4:5:6:7:8", "1:2:3:4:5:6:7:8:", "1:2:3:4:5:6:7", "1:2:3:4:5:6:7:8:9", ":::1", "1:::", "1:::2", "1::2:", ":1::2", ":1::", "::1:", "::1::", "1::2::", "::1::2", "1::2::3", "::::1", "1::::", "1:2:3:4:5:6:7:8::", "::1:2:3:4:5:6:7:8", "1::2:3:4:5:6:7:8", "1:2:3:4::5:6:7:8", "1:2:3:4:5:6:7::8",
		"1::2:3:4:5:6:7:8:9", "1:2:3:4:5:6:7:8:9::", "::1.2.3.4", "::ffff:192.0.2.33", "1.2.3.4", "1:2:3:4:5:6:1.2.3.4", "::1%eth0", "::1%", "::%1", "[::1]", "::1/128", "::/0", " ::", ":: ", ": :", "::\n", "::\x00", "\x00::", "\x00", "::：1", "1：2", "\uff1a\uff1a", "1∷2",
		strings.Repeat(":", 70000), strings.Repeat("1:", 70000), strings.Repeat("1", 70000), strings.Repeat("::1", 70000), "::" + strings.Repeat("0", 70000), strings.Repeat("0", 70000) + "::", "::" + strings.Repeat("0:", 70000), "1:2:3:4:5:6:7:8" + strings.Repeat(" ", 70000), "::" + strings.Repeat(":1", 70000), strings.Repeat("\xff", 70000), "::" + strings.Repeat("é", 70000)} {
		reads6(t, s, api.V6{}, false)
	}
}

// P10.1: no rune but the digits and the mark is one of a word, and no byte that is no UTF-8.
func TestRunes(t *testing.T) {
	for r := rune(0); r <= utf8.MaxRune; r++ {
		if r > 0x3000 && r < 0xfe00 || r > 0x20000 && r&0xff != 0x31 {
			continue
		}
		s := string(r)
		_, ten := plainNumber(s, 9)
		sixteen := ten || strings.Contains("abcdefABCDEF", s)
		if _, ok := Parse4("1.2.3." + s); ok != ten {
			t.Errorf("1.2.3.%q: %v", s, ok)
		}
		if _, ok := Parse4("1.2.3" + s + "4"); ok != (r == '.') {
			t.Errorf("1.2.3%q4: %v", s, ok)
		}
		if _, ok := Parse6("::" + s); ok != sixteen {
			t.Errorf("::%q: %v", s, ok)
		}
		if _, ok := Parse6("1:2:3:4:5:6:7777" + s + "8888"); ok != (r == ':') {
			t.Errorf("7777%q8888: %v", s, ok)
		}
		if _, ok := ParseNet4("0.0.0.0/" + s); ok != ten {
			t.Errorf("/%q: %v", s, ok)
		}
		if _, ok := ParseNet6("::" + s + "1"); ok != (r == '/') {
			t.Errorf("::%q1: %v", s, ok)
		}
	}
	for b := 0x80; b < 0x100; b++ {
		s := string([]byte{byte(b)})
		reads4(t, "1.2.3."+s, api.V4{}, false)
		reads4(t, "1.2.3.4"+s, api.V4{}, false)
		reads6(t, "::"+s, api.V6{}, false)
		reads6(t, s+"::", api.V6{}, false)
		prefix4(t, "0.0.0.0/"+s, api.Net4{}, false)
		prefix6(t, "::/"+s, api.Net6{}, false)
		prefix6(t, "::"+s+"0", api.Net6{}, false)
	}
}

// P10.1, P10.3: an IPv6 address's own word.
func TestText6(t *testing.T) {
	for _, want := range []string{
		"::", "::1", "1::", "1:2:3:4:5:6:7:8", "1::8", "2001:db8::1", "64:ff9b::c000:221", "fe80::a00:27ff:fe4e:66a1",
		"0:2:3:4:5:6:7:8", "1:0:3:4:5:6:7:8", "1:2:3:4:0:6:7:8", "1:2:3:4:5:6:7:0", "0:2:3:4:5:6:7:0", "0:1:0:1:0:1:0:1", "1:0:1:0:1:0:1:0",
		"::3:4:5:6:7:8", "1::4:5:6:7:8", "1:2:3:4:5:6::", "1:2:3::6:7:8",
		"::3:0:0:6:7:8", "::3:4:5:6:0:0", "1::4:0:0:7:8", "1::4:5:6:0:0", "::1:0:0:1:0:0", "1::1:0:0:1:1",
		"::4:0:0:7:8", "0:0:3::7:8", "0:0:3:4:5::", "::4:5:6:0:0", "1:0:0:4::8", "1::5:0:0:8", "1:0:0:4::", "::5:0:0:0", "0:0:0:4::", "1:0:0:4:5::",
		"0:2:3::", "0:2::5:0:7:8", "::5:0:7:0", "0:2:0:4::",
		"a:b:c:d:e:f:a0:b0", "abcd:ef01:2345:6789:abcd:ef01:2345:6789", "ffff:ffff:ffff:ffff:ffff:ffff:ffff:ffff", "1:10:100:1000:f000:f00:f0:f", "::ffff:c000:221", "::ffff:0:0", "100::", "::100", "::10", "::8000",
	} {
		a, ok := plainParse6(want)
		if !ok {
			t.Fatalf("%q is no word", want)
		}
		writes6(t, a, want)
		reads6(t, want, a, true)
	}
}

// P10.1, P10.3: the own word of each pattern of noughts; each address is read from its word.
func TestText6Patterns(t *testing.T) {
	for _, g := range [][2]byte{{0, 1}, {1, 0}, {0xff, 0xff}, {0, 0x10}, {0xab, 0xcd}} {
		for pattern := range 1 << 8 {
			var a api.V6
			for i := range 8 {
				if pattern>>i&1 == 1 {
					a[2*i], a[2*i+1] = g[0], g[1]
				}
			}
			writes6(t, a, plainText6(a))
		}
	}
}

// P10.1, P10.3: an IPv4 address's word; each address is read from it.
func TestText4(t *testing.T) {
	for i := range 256 {
		b := byte(i)
		for _, a := range []api.V4{{b}, {0, b}, {0, 0, b}, {0, 0, 0, b}, {b, b, b, b}, {b, 255 - b, b ^ 0x55, 10}} {
			writes4(t, a, fmt.Sprintf("%d.%d.%d.%d", a[0], a[1], a[2], a[3]))
		}
	}
}

// P10.1: words of prefixes.
func TestParseNet4(t *testing.T) {
	for s, n := range map[string]api.Net4{
		"0.0.0.0/0": {}, "10.0.0.0/8": net4("10.0.0.0", 8), "172.16.0.0/12": net4("172.16.0.0", 12), "192.0.2.33/32": net4("192.0.2.33", 32), "192.0.2.32/31": net4("192.0.2.32", 31), "255.255.255.255/32": net4("255.255.255.255", 32),
		"255.255.255.254/31": net4("255.255.255.254", 31), "128.0.0.0/1": net4("128.0.0.0", 1), "0.0.0.0/32": net4("0.0.0.0", 32), "0.0.0.0/9": net4("0.0.0.0", 9), "0.0.0.0/10": net4("0.0.0.0", 10), "10.0.0.0/30": net4("10.0.0.0", 30),
	} {
		prefix4(t, s, n, true)
	}
	for _, s := range []string{"0.0.0.1/0", "128.0.0.0/0", "10.0.0.1/8", "10.128.0.0/8", "192.0.2.33/31", "255.255.255.255/31", "192.0.0.0/1", "0.0.0.1/31", "10.0.0.0", "10.0.0.0/", "/8", "/", "//", "", "10.0.0.0//8", "10.0.0.0/8/", "10.0.0.0/8/8", "/10.0.0.0/8", "10.0.0.0/8/0", "10.0.0/8", "10.0.0.0.0/8", "10/8", "010.0.0.0/8", "10.0.0.256/8", "::/8", "::/0", "10.0.0.0/255.0.0.0", "10.0.0.0\\8", "10.0.0.0 /8", "10.0.0.0/ 8", " 10.0.0.0/8", "10.0.0.0∕8", strings.Repeat("/", 70000), "10.0.0.0" + strings.Repeat("/8", 70000), "0.0.0.0/" + strings.Repeat("0", 70000), "0.0.0.0/" + strings.Repeat("1", 70000)} {
		prefix4(t, s, api.Net4{}, false)
	}
}

// P10.1: words of prefixes.
func TestParseNet6(t *testing.T) {
	for s, n := range map[string]api.Net6{
		"::/0": {}, "0:0:0:0:0:0:0:0/0": {}, "64:ff9b::/96": net6("64:ff9b::", 96), "64:FF9B::0/96": net6("64:ff9b::", 96), "fe80::/10": net6("fe80::", 10), "::1/128": net6("::1", 128), "::/128": net6("::", 128), "8000::/1": net6("8000::", 1), "2001:db8::/32": net6("2001:db8::", 32),
		"ffff:ffff:ffff:ffff:ffff:ffff:ffff:ffff/128": net6("ffff:ffff:ffff:ffff:ffff:ffff:ffff:ffff", 128), "ffff:ffff:ffff:ffff:ffff:ffff:ffff:fffe/127": net6("ffff:ffff:ffff:ffff:ffff:ffff:ffff:fffe", 127), "::/99": net6("::", 99), "::/100": net6("::", 100), "1::/109": net6("1::", 109),
	} {
		prefix6(t, s, n, true)
	}
	for _, s := range []string{"::1/0", "8000::/0", "::1/127", "fe80::/8", "64:ff9b::1/96", "64:ff9b::8000:0/96", "2001:db8:8000::/32", "c000::/1", "::", "::/", "/0", "/", "//", "", "::1", "1::", "::/0/", "::/0/0", "::/0/0/0", "::/128/128", "/::/0", "::0//0", ":/0", ":::/0", "1/16", "1:2:3:4:5:6:7/128", "1:2:3:4:5:6:7:8:9/128", "12345::/128", "g::/128", "10.0.0.0/8", "::10.0.0.0/128", "fe80::%1/10", "::/ffff::", ":: /0", "::/ 0", " ::/0", "::/0x10", "::/a", "::/1a", strings.Repeat("/", 70000), "::" + strings.Repeat("/0", 70000), "::/" + strings.Repeat("0", 70000), "::/" + strings.Repeat("1", 70000), strings.Repeat(":", 70000) + "/0"} {
		prefix6(t, s, api.Net6{}, false)
	}
}

// P10.1: each Len that may be is read, none beyond the greatest, none below 0, and none that is written otherwise.
func TestLengths(t *testing.T) {
	for n := -300; n <= 1300; n++ {
		four, six := api.Net4{}, api.Net6{}
		if n >= 0 && n <= 32 {
			four.Len = n
		}
		if n >= 0 && n <= 128 {
			six.Len = n
		}
		prefix4(t, fmt.Sprintf("0.0.0.0/%d", n), four, n >= 0 && n <= 32)
		prefix6(t, fmt.Sprintf("::/%d", n), six, n >= 0 && n <= 128)
		if n >= 0 {
			for _, shape := range []string{"+%d", "-%d", " %d", "%d ", "0%d", "00%d", "%d.", ".%d", "%d.0", "%d:", ":%d", "%d/", "/%d", "\x00%d", "%d\x00", "%d\n"} {
				prefix4(t, "0.0.0.0/"+fmt.Sprintf(shape, n), api.Net4{}, false)
				prefix6(t, "::/"+fmt.Sprintf(shape, n), api.Net6{}, false)
			}
		}
	}
	for _, w := range wrongNumbers() {
		if w == "256" || !lenShape.MatchString(w) || len(w) > 2 {
			prefix4(t, "0.0.0.0/"+w, api.Net4{}, false)
			prefix6(t, "::/"+w, api.Net6{}, false)
		}
	}
}

// P10.1: of each Len a prefix may have each bit ahead set, the last one of it too, and none behind, the first one of these and the last bit of Addr least of all.
func TestBits(t *testing.T) {
	for bits := range 33 {
		for i := range 32 {
			n := api.Net4{Addr: turned4(api.V4{}, i), Len: bits}
			want := n
			if i >= bits {
				want = api.Net4{}
			}
			prefix4(t, fmt.Sprintf("%s/%d", netip.AddrFrom4(n.Addr), bits), want, i < bits)
			holds4(t, n, n.Addr, i < bits)
			holds4(t, n, api.V4{}, false)
		}
	}
	for bits := range 129 {
		for i := range 128 {
			n := api.Net6{Addr: turned6(api.V6{}, i), Len: bits}
			want := n
			if i >= bits {
				want = api.Net6{}
			}
			prefix6(t, fmt.Sprintf("%s/%d", netip.AddrFrom16(n.Addr), bits), want, i < bits)
			holds6(t, n, n.Addr, i < bits)
			holds6(t, n, api.V6{}, false)
		}
	}
}

// fill4 is an IPv4 address's first bits, and noughts or ones behind.
func fill4(a api.V4, bits int, ones bool) api.V4 {
	for i := bits; i < 32; i++ {
		if bit(a[:], i) != ones {
			a = turned4(a, i)
		}
	}
	return a
}

// fill6 is an IPv6 address's first bits, and noughts or ones behind.
func fill6(a api.V6, bits int, ones bool) api.V6 {
	for i := bits; i < 128; i++ {
		if bit(a[:], i) != ones {
			a = turned6(a, i)
		}
	}
	return a
}

// P10.2: of each Len a prefix holds the addresses that differ from it behind, and none that differs ahead.
func TestHolds4(t *testing.T) {
	for _, base := range []api.V4{{}, {255, 255, 255, 255}, {192, 0, 2, 33}, {0x55, 0xaa, 0x55, 0xaa}} {
		for bits := range 33 {
			n := api.Net4{Addr: fill4(base, bits, false), Len: bits}
			holds4(t, n, n.Addr, true)
			holds4(t, n, fill4(base, bits, true), true)
			holds4(t, n, base, true)
			for i := range 32 {
				holds4(t, n, turned4(n.Addr, i), i >= bits)
				holds4(t, n, turned4(base, i), i >= bits)
				holds4(t, n, turned4(turned4(n.Addr, i), 31), i >= bits || i == 31)
			}
		}
	}
}

// P10.2: of each Len a prefix holds the addresses that differ from it behind, and none that differs ahead.
func TestHolds6(t *testing.T) {
	for _, base := range []api.V6{{}, fill6(api.V6{}, 0, true), six("2001:db8:1:2:3:4:5:6"), six("5555:aaaa:5555:aaaa:5555:aaaa:5555:aaaa")} {
		for bits := range 129 {
			n := api.Net6{Addr: fill6(base, bits, false), Len: bits}
			holds6(t, n, n.Addr, true)
			holds6(t, n, fill6(base, bits, true), true)
			holds6(t, n, base, true)
			for i := range 128 {
				holds6(t, n, turned6(n.Addr, i), i >= bits)
				holds6(t, n, turned6(base, i), i >= bits)
				holds6(t, n, turned6(turned6(n.Addr, i), 127), i >= bits || i == 127)
			}
		}
	}
}

// P10.2: a prefix that may not be holds nothing: one of a wrong Len, or with a bit set behind it.
func TestHoldsNothing(t *testing.T) {
	all4 := []api.V4{{}, {10}, {10, 0, 0, 1}, {255, 255, 255, 255}, {127, 0, 0, 1}}
	all6 := []api.V6{{}, {15: 1}, {0x20, 1}, fill6(api.V6{}, 0, true)}
	for _, bits := range []int{-1, -2, -8, -24, -32, -128, -256, -1 << 31, -1 << 32, math.MinInt, math.MinInt + 32, math.MinInt + 128, 129, 130, 136, 160, 256, 256 + 8, 65536, 1 << 31, 1 << 32, 1<<32 + 8, 1<<61 + 1, math.MaxInt, math.MaxInt - 7} {
		for _, x := range all4 {
			for _, a := range all4 {
				holds4(t, api.Net4{Addr: x, Len: bits}, a, false)
			}
		}
		for _, x := range all6 {
			for _, a := range all6 {
				holds6(t, api.Net6{Addr: x, Len: bits}, a, false)
			}
		}
	}
	for bits := 33; bits <= 128; bits++ {
		for _, x := range all4 {
			holds4(t, api.Net4{Addr: x, Len: bits}, x, false)
			holds4(t, api.Net4{Addr: x, Len: bits}, api.V4{}, false)
		}
	}
	for _, n := range []api.Net4{net4("10.0.0.1", 8), net4("10.128.0.0", 8), net4("0.0.0.1", 31), net4("128.0.0.0", 0), net4("0.0.0.1", 0)} {
		for _, a := range append(all4, n.Addr) {
			holds4(t, n, a, false)
		}
	}
	for _, n := range []api.Net6{net6("fe80::", 8), net6("::1", 127), net6("8000::", 0), net6("::1", 0), net6("64:ff9b::8000:0", 96)} {
		for _, a := range append(all6, n.Addr) {
			holds6(t, n, a, false)
		}
	}
}

// P10.3: what a prefix holds, each shorter one of the same address holds, too.
func TestShorter(t *testing.T) {
	r := rand.New(rand.NewSource(1003))
	for range 200 {
		var a api.V4
		var b api.V6
		r.Read(a[:])
		r.Read(b[:])
		bits4, bits6 := r.Intn(33), r.Intn(129)
		x, y := fill4(a, bits4, false), fill6(b, bits6, false)
		holds4(t, api.Net4{Addr: x, Len: bits4}, a, true)
		holds6(t, api.Net6{Addr: y, Len: bits6}, b, true)
		for n := range bits4 {
			holds4(t, api.Net4{Addr: fill4(x, n, false), Len: n}, a, true)
			holds4(t, api.Net4{Addr: x, Len: n}, a, fill4(x, n, false) == x)
		}
		for n := range bits6 {
			holds6(t, api.Net6{Addr: fill6(y, n, false), Len: n}, b, true)
			holds6(t, api.Net6{Addr: y, Len: n}, b, fill6(y, n, false) == y)
		}
	}
}

// P10.2: the first and the last address of each range, and those just ahead and just behind.
func TestRanges4(t *testing.T) {
	for _, x := range []struct {
		first, last      string
		martian, private bool
	}{
		{"0.0.0.0", "0.255.255.255", true, false},
		{"1.0.0.0", "9.255.255.255", false, false},
		{"10.0.0.0", "10.255.255.255", false, true},
		{"11.0.0.0", "100.63.255.255", false, false},
		{"100.64.0.0", "100.127.255.255", false, true},
		{"100.128.0.0", "126.255.255.255", false, false},
		{"127.0.0.0", "127.255.255.255", true, false},
		{"128.0.0.0", "169.253.255.255", false, false},
		{"169.254.0.0", "169.254.255.255", true, false},
		{"169.255.0.0", "172.15.255.255", false, false},
		{"172.16.0.0", "172.31.255.255", false, true},
		{"172.32.0.0", "192.167.255.255", false, false},
		{"192.168.0.0", "192.168.255.255", false, true},
		{"192.169.0.0", "223.255.255.255", false, false},
		{"224.0.0.0", "239.255.255.255", true, false},
		{"240.0.0.0", "255.255.255.255", true, false},
	} {
		first, last := netip.MustParseAddr(x.first), netip.MustParseAddr(x.last)
		for _, a := range []netip.Addr{first, first.Next(), last.Prev(), last} {
			classes4(t, a.As4(), x.martian, x.private)
		}
	}
	for _, s := range []string{"192.0.2.33", "8.8.8.8", "198.51.100.1", "203.0.113.255", "198.18.0.1", "192.0.0.1", "192.88.99.1"} {
		classes4(t, four(s), false, false)
	}
}

// P10.2: the classes of the addresses with each two bytes ahead.
func TestEach4(t *testing.T) {
	for i := range 1 << 16 {
		for _, low := range []byte{0, 1, 255} {
			a := api.V4{byte(i >> 8), byte(i), low, low}
			if Martian4(a) != plainMartian4(a) {
				t.Errorf("%v: Martian4 is %v", a, !plainMartian4(a))
			}
			if want := !plainMartian4(a) && !plainPrivate(a); May(wellKnown(), a) != want {
				t.Errorf("%v: May is %v", a, !want)
			}
		}
	}
}

// P10.2: the first and the last address of each range, and those just ahead and just behind.
func TestRanges6(t *testing.T) {
	for _, x := range []struct {
		first, last string
		martian     bool
	}{
		{"::", "::1", true},
		{"::2", "::fffe:ffff:ffff", false},
		{"::ffff:0:0", "::ffff:ffff:ffff", true},
		{"::1:0:0:0", "fe7f:ffff:ffff:ffff:ffff:ffff:ffff:ffff", false},
		{"fe80::", "febf:ffff:ffff:ffff:ffff:ffff:ffff:ffff", true},
		{"fec0::", "feff:ffff:ffff:ffff:ffff:ffff:ffff:ffff", false},
		{"ff00::", "ffff:ffff:ffff:ffff:ffff:ffff:ffff:ffff", true},
	} {
		first, last := netip.MustParseAddr(x.first), netip.MustParseAddr(x.last)
		for _, a := range []netip.Addr{first, first.Next(), last.Prev(), last} {
			class6(t, a.As16(), x.martian)
		}
	}
	for _, s := range []string{"2001:db8::1", "64:ff9b::c000:221", "64:ff9b::7f00:1", "::100", "::1:1", "::7f00:1", "::c000:221", "::ffff:0:7f00:1", "fc00::1", "fd00::1", "fec0::1", "100::", "1::", "8000::1", "0:1::ffff:0:0", "1::ffff:0:0"} {
		class6(t, six(s), false)
	}
	for i := range 128 {
		class6(t, turned6(api.V6{}, i), i == 127)
		class6(t, turned6(six("::1"), i), i == 127)
		class6(t, turned6(six("::ffff:c000:221"), i), i >= 96)
		class6(t, turned6(six("fe80::1"), i), i >= 10 || i == 7)
		class6(t, turned6(six("ff02::1"), i), i >= 8)
	}
}

// P10.2: of the well-known prefix alone it hangs whether a private address may go through; no martian may, whatever the prefix.
func TestMay(t *testing.T) {
	for _, x := range []struct {
		s              string
		known, another bool
	}{
		{"10.1.2.3", false, true}, {"172.20.0.1", false, true}, {"192.168.0.1", false, true}, {"100.100.0.1", false, true},
		{"192.0.2.33", true, true}, {"8.8.8.8", true, true}, {"172.32.0.1", true, true},
		{"127.0.0.1", false, false}, {"0.0.0.0", false, false}, {"255.255.255.255", false, false}, {"224.0.0.1", false, false}, {"169.254.9.9", false, false},
	} {
		if May(wellKnown(), four(x.s)) != x.known {
			t.Errorf("%s in the well-known prefix: May is %v", x.s, !x.known)
		}
		for _, p := range others() {
			if May(p, four(x.s)) != x.another {
				t.Errorf("%s in %v: May is %v", x.s, p, !x.another)
			}
		}
	}
}

// P10.1 to P10.3: words put together by chance, and addresses and prefixes likewise.
func TestOfWhatever(t *testing.T) {
	r := rand.New(rand.NewSource(1000))
	pieces := []string{":", ":", "::", "0", "0", "1", "f", "F", "12", "0a", "abcd", "00000", "g", ".", ".", "255", "256", "10", "/", "32", "128", "8", " ", "\xff", "é", "64:ff9b::", "10.0.0.0", "2001:db8::"}
	for range 100000 {
		var s string
		for range r.Intn(17) {
			s += pieces[r.Intn(len(pieces))]
		}
		whatever(t, s)
	}
	for range 20000 {
		var a api.V4
		var b api.V6
		r.Read(a[:])
		r.Read(b[:])
		for i := range b {
			if r.Intn(3) > 0 {
				b[i] = 0
			}
		}
		writes4(t, a, netip.AddrFrom4(a).String())
		writes6(t, b, plainText6(b))
		if Martian4(a) != plainMartian4(a) || Martian6(b) != plainMartian6(b) {
			t.Errorf("%v, %x: %v, %v", a, b, Martian4(a), Martian6(b))
		}
		p := api.Net6{Addr: b, Len: r.Intn(140) - 5}
		if May(p, a) != (!plainMartian4(a) && !(plainKnown(p) && plainPrivate(a))) {
			t.Errorf("%v in %v: %v", a, p, May(p, a))
		}
		n := api.Net4{Addr: a, Len: r.Intn(40) - 4}
		holds4(t, n, a, plainMay(a[:], n.Len))
		holds6(t, p, b, plainMay(b[:], p.Len))
	}
}

// whatever reads a text in each way, and holds it against the plain words.
func whatever(t *testing.T, s string) {
	t.Helper()
	a, ok := plainParse4(s)
	reads4(t, s, a, ok)
	b, ok := plainParse6(s)
	reads6(t, s, b, ok)
	n, ok := plainParseNet4(s)
	prefix4(t, s, n, ok)
	p, ok := plainParseNet6(s)
	prefix6(t, s, p, ok)
}

// P10.1, P10.3: texts that nobody thought of.
func FuzzParse(f *testing.F) {
	for _, s := range []string{"", "::", "1.2.3.4", "2001:db8:0:0:1:0:0:1", "10.0.0.0/8", "64:ff9b::/96", "1:2:3:4:5:6:7::", "1::2::3", "::1.2.3.4", "\xff", "1.2.3.٤"} {
		f.Add(s)
	}
	f.Fuzz(whatever)
}

// P10.2, P10.3: prefixes and addresses that nobody thought of.
func FuzzHolds(f *testing.F) {
	f.Add([]byte("\x00\x64\xff\x9b\x00\x00\x00\x00\x00\x00\x00\x00\x00\x00\x00\x00"), 96, []byte("\x00\x64\xff\x9b\x00\x00\x00\x00\x00\x00\x00\x00\x0a\x00\x00\x01"))
	f.Add([]byte("\x0a\x00\x00\x00"), 8, []byte("\x0a\x00\x00\x01"))
	f.Fuzz(func(t *testing.T, prefix []byte, bits int, address []byte) {
		var n api.Net4
		var p api.Net6
		var a api.V4
		var b api.V6
		copy(n.Addr[:], prefix)
		copy(p.Addr[:], prefix)
		copy(a[:], address)
		copy(b[:], address)
		n.Len, p.Len = bits, bits
		holds4(t, n, a, plainHolds(n.Addr[:], bits, a[:]))
		holds6(t, p, b, plainHolds(p.Addr[:], bits, b[:]))
		for i := range 129 {
			q := api.Net6{Addr: p.Addr, Len: i}
			if i < bits && Holds6(p, b) && plainMay(q.Addr[:], i) && !Holds6(q, b) {
				t.Errorf("%v does not hold what %v holds: %x", q, p, b)
			}
		}
		if Martian4(a) != plainMartian4(a) || Martian6(b) != plainMartian6(b) || May(p, a) != (!plainMartian4(a) && !(plainKnown(p) && plainPrivate(a))) {
			t.Errorf("%v, %x, %v: %v, %v, %v", a, b, p, Martian4(a), Martian6(b), May(p, a))
		}
	})
}
