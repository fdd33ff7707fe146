package embed

import (
	"math"
	"math/rand"
	"net/netip"
	"testing"

	"interpreter/api"
)

// stands is, of each length that a prefix may have, where the four bytes stand, as RFC 6052 draws it.
var stands = map[int][4]int{
	32: {4, 5, 6, 7},
	40: {5, 6, 7, 9},
	48: {6, 7, 9, 10},
	56: {7, 9, 10, 11},
	64: {9, 10, 11, 12},
	96: {12, 13, 14, 15},
}

// lengths are those that a prefix may have.
func lengths() []int { return []int{32, 40, 48, 56, 64, 96} }

// badLengths are some that none may have: one beside each of the right ones, whole bytes and others, and the outermost.
func badLengths() []int {
	bad := []int{0, 1, 7, 8, 16, 24, 72, 80, 88, 104, 112, 120, 127, 128, 129, 160, 192, 256, 256 + 32, 65536 + 96, 1<<32 + 64, math.MaxInt,
		-1, -8, -31, -32, -33, -40, -48, -56, -64, -96, -128, -256 + 32, -1<<32 + 64, math.MinInt, math.MinInt + 32}
	for _, n := range lengths() {
		bad = append(bad, n-1, n+1)
	}
	return bad
}

// six is an IPv6 address, from how it is written.
func six(s string) api.V6 { return netip.MustParseAddr(s).As16() }

// four is an IPv4 address, from how it is written.
func four(s string) api.V4 { return netip.MustParseAddr(s).As4() }

// net6 is a prefix of an address that is written.
func net6(s string, bits int) api.Net6 { return api.Net6{Addr: six(s), Len: bits} }

// full is a prefix of that length with each of its bits set, but for those of the byte 8.
func full(bits int) api.Net6 {
	p := api.Net6{Len: bits}
	for i := range bits / 8 {
		p.Addr[i] = 0xff
	}
	p.Addr[8] = 0
	return p
}

// prefixes are some of that length that may be.
func prefixes(bits int) []api.Net6 {
	last := api.Net6{Len: bits}
	last.Addr = turned(last.Addr, bits-1)
	first := api.Net6{Len: bits}
	first.Addr = turned(first.Addr, 0)
	return []api.Net6{{Len: bits}, first, last, full(bits), net6("2001:db8::", bits)}
}

// bit is one of an address, the highest of the first byte being 0.
func bit(x api.V6, i int) bool { return x[i/8]>>(7-i%8)&1 == 1 }

// turned is an address with one of its bits turned.
func turned(x api.V6, i int) api.V6 {
	x[i/8] ^= 0x80 >> (i % 8)
	return x
}

// plainRight is what Right has to answer, as the chapter says it, bit by bit.
func plainRight(p api.Net6) bool {
	if _, may := stands[p.Len]; !may || p.Addr[8] != 0 {
		return false
	}
	for i := p.Len; i < 128; i++ {
		if bit(p.Addr, i) {
			return false
		}
	}
	return true
}

// plainInside is what Inside has to answer, as the chapter says it, bit by bit.
func plainInside(p api.Net6, x api.V6) bool {
	if !plainRight(p) {
		return false
	}
	for i := range p.Len {
		if bit(p.Addr, i) != bit(x, i) {
			return false
		}
	}
	return true
}

// plainEmbed is what Embed has to answer, as the chapter says it.
func plainEmbed(p api.Net6, a api.V4) (api.V6, bool) {
	if !plainRight(p) {
		return api.V6{}, false
	}
	x := p.Addr
	for i, at := range stands[p.Len] {
		x[at] = a[i]
	}
	return x, true
}

// plainExtract is what Extract has to answer, as the chapter says it.
func plainExtract(p api.Net6, x api.V6) (api.V4, bool) {
	if !plainInside(p, x) || x[8] != 0 {
		return api.V4{}, false
	}
	at := stands[p.Len]
	return api.V4{x[at[0]], x[at[1]], x[at[2]], x[at[3]]}, true
}

// may asks whether a prefix may be, and holds the plain words against the same; of one that may not, nothing is inside, put in or taken out.
func may(t *testing.T, p api.Net6, want bool) {
	t.Helper()
	if plainRight(p) != want {
		t.Errorf("%v: the chapter says %v", p, !want)
	}
	if Right(p) != want {
		t.Errorf("%v: Right is %v", p, !want)
	}
	within(t, p, p.Addr, want)
	for _, a := range []api.V4{{}, {192, 0, 2, 33}, {255, 255, 255, 255}} {
		puts(t, p, a)
	}
	if !want {
		for _, x := range []api.V6{{}, p.Addr, six("2001:db8:c000:221::"), six("64:ff9b::c000:221")} {
			within(t, p, x, false)
			takes(t, p, x, api.V4{}, false)
		}
	}
}

// within asks whether an address is inside of a prefix.
func within(t *testing.T, p api.Net6, x api.V6, want bool) {
	t.Helper()
	if plainInside(p, x) != want {
		t.Errorf("%v, %x: the chapter says %v", p, x, !want)
	}
	if Inside(p, x) != want {
		t.Errorf("%v, %x: Inside is %v", p, x, !want)
	}
}

// puts asks that an IPv4 address is put into a prefix as the chapter says, is inside then, and is taken out again; or that it is not, and nothing stands beside false.
func puts(t *testing.T, p api.Net6, a api.V4) {
	t.Helper()
	want, ok := plainEmbed(p, a)
	x, did := Embed(p, a)
	if x != want || did != ok {
		t.Errorf("%v, %v: %x, %v, not %x, %v", p, a, x, did, want, ok)
	}
	if ok {
		within(t, p, x, true)
		takes(t, p, x, a, true)
	}
}

// takes asks which IPv4 address is taken out of an IPv6 one, if one is.
func takes(t *testing.T, p api.Net6, x api.V6, want api.V4, ok bool) {
	t.Helper()
	if a, is := plainExtract(p, x); a != want || is != ok {
		t.Errorf("%v, %x: the chapter says %v, %v, not %v, %v", p, x, a, is, want, ok)
	}
	if a, is := Extract(p, x); a != want || is != ok {
		t.Errorf("%v, %x: %v, %v, not %v, %v", p, x, a, is, want, ok)
	}
}

// P9.1, P9.2: the chapter's examples, and the document's.
func TestExamples(t *testing.T) {
	a := four("192.0.2.33")
	for _, x := range []struct {
		p    api.Net6
		want string
	}{
		{net6("2001:db8::", 32), "2001:db8:c000:221::"},
		{net6("2001:db8:122:344::", 64), "2001:db8:122:344:c0:2:2100:0"},
		{net6("64:ff9b::", 96), "64:ff9b::c000:221"},
	} {
		if y, ok := Embed(x.p, a); y != six(x.want) || !ok {
			t.Errorf("%v: %x, %v, not %s", x.p, y, ok, x.want)
		}
		puts(t, x.p, a)
	}
	if Right(net6("2001:db8::", 33)) {
		t.Error("2001:db8::/33 may be")
	}
	if b, ok := Extract(net6("64:ff9b::", 96), six("2001:db8::")); b != (api.V4{}) || ok {
		t.Errorf("2001:db8:: in 64:ff9b::/96: %v, %v", b, ok)
	}
}

// P9.2: RFC 6052's table of 192.0.2.33 in a prefix of each length.
func TestEachLength(t *testing.T) {
	for _, x := range []struct {
		p    api.Net6
		want string
	}{
		{net6("2001:db8::", 32), "2001:db8:c000:221::"},
		{net6("2001:db8:100::", 40), "2001:db8:1c0:2:21::"},
		{net6("2001:db8:122::", 48), "2001:db8:122:c000:2:2100::"},
		{net6("2001:db8:122:300::", 56), "2001:db8:122:3c0:0:221::"},
		{net6("2001:db8:122:344::", 64), "2001:db8:122:344:c0:2:2100::"},
		{net6("2001:db8:122:344::", 96), "2001:db8:122:344::192.0.2.33"},
	} {
		y, ok := Embed(x.p, four("192.0.2.33"))
		if y != six(x.want) || !ok {
			t.Errorf("%v: %x, %v, not %s", x.p, y, ok, x.want)
		}
		if a, ok := Extract(x.p, six(x.want)); a != four("192.0.2.33") || !ok {
			t.Errorf("%s: %v, %v", x.want, a, ok)
		}
		may(t, x.p, true)
	}
}

// P9.1: which lengths may be, whatever the address; all else of these prefixes is right.
func TestLengths(t *testing.T) {
	for _, n := range lengths() {
		for _, p := range prefixes(n) {
			may(t, p, true)
		}
	}
	for _, n := range badLengths() {
		for _, addr := range []api.V6{{}, six("2001:db8::"), six("64:ff9b::"), six("2001:db8:122:344::")} {
			may(t, api.Net6{Addr: addr, Len: n}, false)
		}
	}
	right := 0
	for n := -300; n <= 300; n++ {
		p := api.Net6{Len: n}
		may(t, p, plainRight(p))
		if Right(p) {
			right++
		}
	}
	if right != 6 {
		t.Errorf("%d lengths may be", right)
	}
}

// P9.1: a bit that is set in a prefix's address, each one, inside of its length, behind it, and in the byte 8.
func TestEachBitOfPrefix(t *testing.T) {
	for _, n := range lengths() {
		for i := range 128 {
			want := i < n && (i < 64 || i > 71)
			may(t, api.Net6{Addr: turned(api.V6{}, i), Len: n}, want)
			p := full(n)
			p.Addr[i/8] |= 0x80 >> (i % 8)
			may(t, p, want)
		}
	}
}

// P9.1: the edges by name: just behind the length, the last bit of the address, and the byte 8 of the two longest.
func TestEdgesOfPrefix(t *testing.T) {
	for _, n := range lengths() {
		for _, p := range prefixes(n) {
			may(t, api.Net6{Addr: turned(p.Addr, n), Len: n}, false)
			may(t, api.Net6{Addr: turned(p.Addr, 127), Len: n}, false)
		}
	}
	for _, b := range []byte{1, 2, 0x80, 0xff} {
		for _, n := range []int{64, 96} {
			p := net6("2001:db8:122:344::", n)
			p.Addr[8] = b
			may(t, p, false)
		}
	}
	for _, addr := range []string{"2001:db8::1", "2001:db8::ff00", "2001:db8:0:0:ff::"} {
		may(t, net6(addr, 32), false)
	}
	// What stands around the byte 8 of the longest is its own.
	may(t, net6("2001:db8:0:ff:ff:ffff::", 96), true)
}

// P9.1: an address that differs from a prefix in one bit, each one, among them the first, the last inside of its length, and the first behind.
func TestInside(t *testing.T) {
	for _, n := range lengths() {
		for _, p := range prefixes(n) {
			for _, a := range []api.V4{{}, {192, 0, 2, 33}, {255, 255, 255, 255}} {
				x, _ := plainEmbed(p, a)
				for i := range 128 {
					within(t, p, turned(x, i), i >= n)
				}
			}
			within(t, p, turned(p.Addr, 0), false)
			within(t, p, turned(p.Addr, n-1), false)
			within(t, p, turned(p.Addr, n), true)
			within(t, p, turned(p.Addr, 127), true)
		}
	}
	p := net6("2001:db8::", 32)
	within(t, p, six("2001:db8:ffff:ffff:ffff:ffff:ffff:ffff"), true)
	within(t, p, six("2001:db9::"), false)
	within(t, p, six("2001:db7:ffff:ffff:ffff:ffff:ffff:ffff"), false)
	within(t, p, api.V6{}, false)
}

// P9.1: nothing is inside of a prefix that may not be, though its first bits are the address's.
func TestInsideOfNoPrefix(t *testing.T) {
	for _, n := range badLengths() {
		within(t, api.Net6{Len: n}, api.V6{}, false)
		within(t, net6("2001:db8::", n), six("2001:db8::"), false)
	}
	for _, n := range lengths() {
		p := api.Net6{Addr: turned(api.V6{}, 127), Len: n}
		within(t, p, p.Addr, false)
		within(t, p, api.V6{}, false)
		takes(t, p, p.Addr, api.V4{}, false)
	}
}

// P9.2, P9.3: the outermost IPv4 addresses, and others, in prefixes of each length; all that is not theirs is the prefix's, or 0.
func TestEmbedOutermost(t *testing.T) {
	for _, n := range lengths() {
		for _, p := range prefixes(n) {
			for _, a := range []string{"0.0.0.0", "255.255.255.255", "0.0.0.1", "128.0.0.0", "1.2.3.4", "255.0.255.0", "0.255.0.255"} {
				puts(t, p, four(a))
			}
			if x, ok := Embed(p, api.V4{}); x != p.Addr || !ok {
				t.Errorf("%v: 0.0.0.0 is %x, %v", p, x, ok)
			}
		}
	}
	ones := four("255.255.255.255")
	for n, want := range map[int]string{
		32: "0:0:ffff:ffff::", 40: "0:0:ff:ffff:ff::", 48: "0:0:0:ffff:ff:ff00::", 56: "0:0:0:ff:ff:ffff::", 64: "0:0:0:0:ff:ffff:ff00:0", 96: "::ffff:ffff",
	} {
		if x, ok := Embed(api.Net6{Len: n}, ones); x != six(want) || !ok {
			t.Errorf("%d: %x, %v, not %s", n, x, ok, want)
		}
	}
}

// P9.2: nothing is taken out where the byte 8 is not 0, whichever of its bits is set; the address is inside all the same, but of the longest.
func TestExtractByteEight(t *testing.T) {
	for _, n := range lengths() {
		for _, p := range prefixes(n) {
			x, _ := plainEmbed(p, four("192.0.2.33"))
			for b := range 255 {
				x[8] = byte(b + 1)
				within(t, p, x, n != 96)
				takes(t, p, x, api.V4{}, false)
			}
		}
	}
}

// P9.2: what stands behind the four bytes does not count.
func TestExtractWhatIsBehind(t *testing.T) {
	for n, at := range stands {
		for _, p := range prefixes(n) {
			for _, a := range []string{"0.0.0.0", "192.0.2.33", "255.255.255.255"} {
				x, _ := plainEmbed(p, four(a))
				for i := at[3] + 1; i < 16; i++ {
					if i == 8 {
						continue
					}
					for _, b := range []byte{1, 0x80, 0xff} {
						y := x
						y[i] = b
						takes(t, p, y, four(a), true)
					}
					x[i] = 0xff
				}
				takes(t, p, x, four(a), true)
			}
		}
	}
}

// P9.2: each bit of an address by itself: it is the prefix's, the IPv4 address's, the byte 8's, or nobody's.
func TestExtractEachBit(t *testing.T) {
	for n, at := range stands {
		for _, p := range prefixes(n) {
			for i := range 128 {
				x := turned(p.Addr, i)
				a, ok := api.V4{}, i >= n && i/8 != 8
				for j := range a {
					if ok && i/8 == at[j] {
						a[j] = 0x80 >> (i % 8)
					}
				}
				takes(t, p, x, a, ok)
			}
		}
	}
}

// P9.2: beside false there is no address, of a prefix that may not be, and of an address that is not inside or has no 0 in the byte 8.
func TestNothingBesideFalse(t *testing.T) {
	all := api.V4{255, 255, 255, 255}
	for _, n := range badLengths() {
		p := net6("2001:db8::", n)
		if x, ok := Embed(p, all); x != (api.V6{}) || ok {
			t.Errorf("%d: %x, %v", n, x, ok)
		}
		takes(t, p, six("2001:db8:ffff:ffff:ff:ffff:ffff:ffff"), api.V4{}, false)
	}
	for _, n := range lengths() {
		p := full(n)
		p.Addr[15]++
		if x, ok := Embed(p, all); x != (api.V6{}) || ok {
			t.Errorf("%v: %x, %v", p, x, ok)
		}
		x, _ := plainEmbed(full(n), all)
		takes(t, full(n), turned(x, 0), api.V4{}, false)
		takes(t, full(n), turned(x, n-1), api.V4{}, false)
		takes(t, full(n), turned(x, 64), api.V4{}, false)
	}
}

// P9.3: two addresses that differ in one bit, in each of the four bytes, differ in each prefix too; the same one is the same.
func TestOneBitApart(t *testing.T) {
	for _, n := range lengths() {
		for _, p := range prefixes(n) {
			for _, a := range []api.V4{{}, {192, 0, 2, 33}, {255, 255, 255, 255}, {170, 85, 170, 85}} {
				x, _ := Embed(p, a)
				if again, ok := Embed(p, a); again != x || !ok {
					t.Errorf("%v, %v: %x, and then %x", p, a, x, again)
				}
				for i := range 32 {
					b := a
					b[i/8] ^= 0x80 >> (i % 8)
					y, ok := Embed(p, b)
					if y == x || !ok {
						t.Errorf("%v, %v, bit %d: %x, %v", p, a, i, y, ok)
					}
					takes(t, p, y, b, true)
				}
			}
		}
	}
}

// P9.3: the bytes of an address keep apart: none is put where another one is.
func TestBytesKeepApart(t *testing.T) {
	for _, n := range lengths() {
		for b := range 256 {
			for i := range 4 {
				a := api.V4{}
				a[i] = byte(b)
				puts(t, full(n), a)
				puts(t, net6("2001:db8::", n), api.V4{byte(b), byte(b + 1), byte(b + 2), byte(b + 3)})
			}
		}
	}
}

// somePrefix is a prefix of chance, which may be, or nearly so.
func somePrefix(chance *rand.Rand) api.Net6 {
	p := api.Net6{Len: lengths()[chance.Intn(6)]}
	for i := range p.Len / 8 {
		if i != 8 || chance.Intn(5) == 0 {
			p.Addr[i] = byte(chance.Intn(256))
		}
	}
	if chance.Intn(5) == 0 {
		p.Addr = turned(p.Addr, chance.Intn(128))
	}
	if chance.Intn(5) == 0 {
		p.Len += chance.Intn(5) - 2
	}
	return p
}

// holds asks all calls for what the chapter says.
func holds(t *testing.T, p api.Net6, x api.V6, a api.V4) {
	t.Helper()
	if Right(p) != plainRight(p) {
		t.Errorf("%v: Right is %v", p, Right(p))
	}
	within(t, p, x, plainInside(p, x))
	b, ok := plainExtract(p, x)
	takes(t, p, x, b, ok)
	puts(t, p, a)
}

// P9.1 to P9.3: prefixes and addresses of chance, inside and beside.
func TestOfWhatever(t *testing.T) {
	chance := rand.New(rand.NewSource(9))
	taken := map[bool]int{}
	for range 20000 {
		p := somePrefix(chance)
		var x api.V6
		chance.Read(x[:])
		if chance.Intn(4) > 0 && p.Len >= 0 {
			copy(x[:], p.Addr[:p.Len/8])
		}
		if chance.Intn(4) > 0 {
			x[8] = 0
		}
		var a api.V4
		chance.Read(a[:])
		holds(t, p, x, a)
		_, ok := Extract(p, x)
		taken[ok]++
	}
	if taken[true] < 1000 || taken[false] < 1000 {
		t.Errorf("taken out, and not: %v", taken)
	}
}

// FuzzEmbed is P9.1 to P9.3, of whatever prefix and addresses; the address is asked for as it is, and inside of the prefix.
func FuzzEmbed(f *testing.F) {
	f.Add(32, "\x20\x01\x0d\xb8", "", "\xc0\x00\x02\x21")
	f.Add(96, "\x00\x64\xff\x9b", "\x00\x64\xff\x9b\x00\x00\x00\x00\x00\x00\x00\x00\xc0\x00\x02\x21", "\xff\xff\xff\xff")
	f.Add(64, "\x20\x01\x0d\xb8\x01\x22\x03\x44\x01", "", "")
	f.Add(-32, "", "", "\x01")
	f.Add(128, "\xff", "\xff", "\xff")
	f.Fuzz(func(t *testing.T, bits int, addr, x, a string) {
		p := api.Net6{Len: bits}
		copy(p.Addr[:], addr)
		var y api.V6
		copy(y[:], x)
		var b api.V4
		copy(b[:], a)
		holds(t, p, y, b)
		if bits >= 0 && bits <= 128 {
			copy(y[:], p.Addr[:bits/8])
			holds(t, p, y, b)
		}
	})
}
