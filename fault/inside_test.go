package fault

import (
	"slices"
	"strings"
	"testing"

	"interpreter/api"
	"interpreter/ip6"
)

// P15.3: the chapter's example, and what stands in each field.
func TestInside4Examples(t *testing.T) {
	head := withSum4([]byte("\x45\xa5\x00\x78\x12\x34\x00\x00\x3f\x11\x00\x00" + string(from4[:]) + string(to4[:])))
	for n := range 151 {
		p, claim, e := Inside4(head + some(n))
		if n < 8 {
			isFault(t, n, e, api.ErrShort)
			if p != (api.Ip4{}) || claim != 0 {
				t.Errorf("%d: %s, %d beside an error", n, brief(p), claim)
			}
			continue
		}
		want := api.Ip4{Tos: 0xa5, Id: 0x1234, Ttl: 63, Proto: 17, From: from4, To: to4, Data: some(min(n, 100))}
		if e != nil || p != want || claim != 100 {
			t.Errorf("%d: %s, %d, %v, not %s", n, brief(p), claim, e, brief(want))
		}
	}
}

// P15.3: a packet's bytes, with all that a head may say, cut anywhere: those of the head are asked for first, then those of the data.
func TestInside4Cut(t *testing.T) {
	for _, options := range []int{0, 4, 20, 36, 40} {
		for _, n := range []int{0, 1, 7, 8, 9, 20, 64} {
			p := packet4(17, some(n))
			p.Options = some(options)
			p.DF, p.More, p.At = n%2 == 0, n > 0 && n%8 == 0, 8*n
			s := bytes4(t, p)
			for cut := range len(s) + 1 {
				code := asksInside4(t, []int{options, n, cut}, s[:cut])
				want := api.OK
				if cut < 20+options+min(n, 8) {
					want = api.ErrShort
				}
				expectCode(t, []int{options, n, cut}, code, want)
			}
			q, claim, e := Inside4(s)
			if e != nil || q != p || claim != n {
				t.Errorf("%s: %s, %d, %v", brief(p), brief(q), claim, e)
			}
			if q, claim, e := Inside4(s + "behind"); e != nil || q != p || claim != n {
				t.Errorf("%s behind: %s, %d, %v", brief(p), brief(q), claim, e)
			}
		}
	}
}

// P15.3: texts of 0 to 80 bytes whose first byte is any one, with a right sum and a wrong one.
func TestInside4First(t *testing.T) {
	for n := range 81 {
		for first := range 256 {
			s := some(n)
			if n > 0 {
				s = one(first) + s[1:]
			}
			if n > 7 {
				s = changed(s, 2, two(n)+"\x12\x34\x20\x05")
			}
			wrong := asksInside4(t, s, s)
			right := asksInside4(t, s, withSum4([]byte(s)))
			head := first % 16 * 4
			want := api.OK
			switch {
			case n < 20:
				want = api.ErrShort
			case first < 0x45 || first > 0x4f:
				want = api.ErrForm
			case n < head:
				want = api.ErrShort
			}
			expectCode(t, []int{n, first}, right, want)
			if want == api.OK {
				want = api.ErrSum
			}
			expectCode(t, []int{n, first, 0}, wrong, want)
		}
	}
}

// P15.3: numbers of all bytes below the head's, of less than what is there, of just that, and of more.
func TestInside4Claims(t *testing.T) {
	for _, options := range []int{0, 4, 40} {
		p := packet4(6, some(40))
		p.Options = some(options)
		s := bytes4(t, p)
		head := 20 + options
		for _, there := range []int{0, 1, 6, 7, 8, 9, 39, 40} {
			for all := range 150 {
				code := asksInside4(t, []int{options, there, all}, changed4(s[:head+there], 2, two(all)))
				want := api.OK
				switch {
				case all < head:
					want = api.ErrForm
				case there < 8 && there < all-head:
					want = api.ErrShort
				}
				expectCode(t, []int{options, there, all}, code, want)
			}
			for _, all := range []int{1 << 15, 1<<16 - 1, 1<<16 - 2, 1 << 8} {
				code := asksInside4(t, []int{options, there, all}, changed4(s[:head+there], 2, two(all)))
				want := api.OK
				if there < 8 {
					want = api.ErrShort
				}
				expectCode(t, []int{options, there, all}, code, want)
			}
		}
	}
}

// P15.3: each word of the three bits and the place, with numbers of all bytes by which both come to a whole's bound, and beyond.
func TestInside4Places(t *testing.T) {
	s := bytes4(t, api.Ip4{Id: 1, Ttl: 9, Proto: 17, From: from4, To: to4, Data: some(32)})
	for _, bits := range []int{0, 8192, 16384, 24576, 32768, 40960, 49152, 57344} {
		for _, at := range []int{0, 8, 16, 24, 1024, 32760, 32768, 65472, 65480, 65488, 65496, 65504, 65512, 65520, 65528} {
			for _, all := range []int{20, 21, 27, 28, 29, 52, 60, 63, 64, 65535 - at - 1, 65535 - at, 65535 - at + 1, 65535} {
				if all > 65535 {
					continue
				}
				w := bits + at/8
				code := asksInside4(t, []int{bits, at, all}, changed4(changed(s, 2, two(all)), 6, two(w)))
				want := api.OK
				if bits >= 32768 || at+all > 65535 || all < 20 {
					want = api.ErrForm
				}
				expectCode(t, []int{bits, at, all}, code, want)
			}
		}
	}
	for _, more := range []int{0, 1, 7, 8, 9, 13} {
		x := changed4(changed(s[:20+min(more, 8)], 2, two(20+more)), 6, "\x20\x00")
		p, claim, e := Inside4(x)
		if e != nil || !p.More || claim != more || len(p.Data) != min(more, 8) {
			t.Errorf("%d with More: %s, %d, %v", more, brief(p), claim, e)
		}
	}
}

// P15.3: of several faults the one that the promise names first.
func TestInside4Order(t *testing.T) {
	s := bytes4(t, packet4(6, some(40)))
	for _, x := range []struct {
		what string
		s    string
		code api.Errno
	}{
		{"short ahead of the form", "\x65" + s[1:19], api.ErrShort},
		{"form ahead of the head's bytes", "\x6f" + s[1:20], api.ErrForm},
		{"a head of 16 bytes", changed4(s, 0, "\x44"), api.ErrForm},
		{"a head of none", "\x40" + s[1:], api.ErrForm},
		{"form ahead of the sum", "\x54" + s[1:], api.ErrForm},
		{"the head's bytes ahead of the sum", "\x47" + s[1:27], api.ErrShort},
		{"the sum ahead of all", changed(s, 2, "\x00\x00"), api.ErrSum},
		{"the sum ahead of the bit", changed(s, 6, "\x80"), api.ErrSum},
		{"the sum ahead of the data", s[:8] + "\x00" + s[9:25], api.ErrSum},
		{"all ahead of the data", changed4(s[:24], 2, "\x00\x17"), api.ErrForm},
		{"the bit ahead of the data", changed4(s[:24], 6, "\x80"), api.ErrForm},
		{"the place ahead of the data", changed4(s[:24], 6, "\x1f\xff"), api.ErrForm},
		{"the data", s[:31], api.ErrShort},
	} {
		expectCode(t, x.what, asksInside4(t, x.what, x.s), x.code)
	}
}

// P15.3: a bit of a head that is turned is told, but those that say how long it is, and each head without a bit, its sum made anew, is read.
func TestInside4Bits(t *testing.T) {
	s := bytes4(t, packet4(6, some(40)))
	for bit := range len(s) * 8 {
		b := []byte(s)
		b[bit/8] ^= 1 << (bit % 8)
		code := asksInside4(t, bit, string(b))
		switch {
		case bit >= 24*8:
			expectCode(t, bit, code, api.OK)
		case bit >= 8:
			expectCode(t, bit, code, api.ErrSum)
		}
		asksInside4(t, bit, withSum4(b))
	}
	for _, zero := range []string{"\x00\x00", "\xff\xff"} {
		p := "\x45\x00\xba\xff\x00\x00\x00\x00\x00\x00" + zero + strings.Repeat("\x00", 8) + some(30)
		expectCode(t, zero, asksInside4(t, zero, p), api.OK)
	}
}

// P15.4: a packet's bytes, with all that heads may say, cut anywhere.
func TestInside6Cut(t *testing.T) {
	for _, n := range []int{0, 1, 7, 8, 9, 16, 64} {
		for _, p := range []api.Ip6{
			{Class: 0x5a, Flow: 0xfedcb, Hop: 7, From: from6, To: to6, Proto: 17, Data: some(n)},
			packet6(6, some(n)), piece6(58, 8*n, n > 0 && n%8 == 0, some(n)), piece6(0, 0, false, some(n)),
			{Hop: 1, From: from6, To: to6, Exts: []api.Ext{{Kind: 43, Body: "\x00\x01abcd"}}, Frag: true, Id: 7, Proto: 44, Data: some(n)},
		} {
			s := bytes6(t, p)
			for cut := range len(s) + 1 {
				code := asksInside6(t, []int{n, cut}, s[:cut])
				want := api.OK
				if cut < len(s)-n+min(n, 8) {
					want = api.ErrShort
				}
				expectCode(t, []int{n, cut}, code, want)
			}
			for _, behind := range []string{"", "behind", s} {
				q, claim, e := Inside6(s + behind)
				if e != nil || !same6(q, p) || claim != n {
					t.Errorf("%s: %s, %d, %v", brief(p), brief(q), claim, e)
				}
			}
		}
	}
}

// P15.4: texts of 0 to 80 bytes whose first byte is any one.
func TestInside6First(t *testing.T) {
	for n := range 81 {
		for first := range 256 {
			s := some(n)
			if n > 6 {
				s = changed(s, 4, two(n-20)+"\x11")
			}
			if n > 0 {
				s = one(first) + s[1:]
			}
			code := asksInside6(t, []int{n, first}, s)
			want := api.OK
			switch {
			case n < 40:
				want = api.ErrShort
			case first < 0x60 || first > 0x6f:
				want = api.ErrForm
			case n < 48:
				want = api.ErrShort
			}
			expectCode(t, []int{n, first}, code, want)
		}
	}
}

// P15.4: claims below, at and above what is there, with heads behind the first one; those do not count in them.
func TestInside6Claims(t *testing.T) {
	for _, p := range []api.Ip6{{Hop: 1, From: from6, To: to6, Proto: 17}, packet6(17, ""), piece6(17, 80, false, "")} {
		head := bytes6(t, p)
		heads := len(head) - 40
		for _, there := range []int{0, 1, 6, 7, 8, 9, 39, 40} {
			for _, said := range []int{0, 1, 6, 7, 8, 9, 15, 16, 17, 23, 24, 25, 30, 31, 32, 33, 38, 39, 40, 41, 48, 60, 64, 65, 256, 32768, 65534, 65535} {
				s := changed(head+some(there), 4, two(said))
				code := asksInside6(t, []int{heads, there, said}, s)
				want := api.OK
				if said < heads || there < 8 && there < said-heads {
					want = api.ErrShort
				}
				expectCode(t, []int{heads, there, said}, code, want)
				if _, claim, e := Inside6(s); e == nil && claim != said-heads {
					t.Errorf("%d, %d, %d: claim %d", heads, there, said, claim)
				}
			}
		}
	}
}

// P15.4: chains that are too long, end too early, or have an extension out of its place; the first fault is told.
func TestInside6Chains(t *testing.T) {
	head := func(next int, behind string) string {
		return "\x60\x00\x00\x00" + two(len(behind)) + one(next) + "\x40" + string(from6[:]) + string(to6[:]) + behind
	}
	eight := strings.Repeat("\x3c\x00abcdef", 8)
	last := strings.Repeat("\x3c\x00abcdef", 7) + "\x11\x00abcdef"
	fragmented := "\x11\x00\x00\x01\x00\x00\x00\x07"
	for _, x := range []struct {
		what   string
		next   int
		behind string
		code   api.Errno
	}{
		{"eight", 60, last + "datagram", api.OK},
		{"eight and no more bytes", 60, last, api.OK},
		{"nine", 60, eight + "\x11\x00abcdef" + "datagram", api.ErrLong},
		{"nine of which the last one is not there", 60, eight, api.ErrLong},
		{"eight and one that is out of its place", 60, strings.Repeat("\x3c\x00abcdef", 7) + "\x00\x00abcdef" + "\x11\x00abcdef", api.ErrForm},
		{"eight and a fragment's head", 60, strings.Repeat("\x3c\x00abcdef", 7) + "\x2c\x00abcdef" + fragmented + "datagram", api.OK},
		{"out of its place", 60, "\x00\x00abcdef" + "\x11\x00abcdef" + "datagram", api.ErrForm},
		{"out of its place, and not there", 43, "\x00\x00abcdef", api.ErrForm},
		{"twice", 0, "\x00\x00abcdef" + "\x11\x00abcdef" + "datagram", api.ErrForm},
		{"all three", 0, "\x2b\x00abcdef" + "\x3c\x00abcdef" + "\x11\x00abcdef" + "datagram", api.OK},
		{"no bytes", 0, "", api.ErrShort},
		{"one byte", 60, "\x11", api.ErrShort},
		{"seven bytes", 43, "\x11\x00abcde", api.ErrShort},
		{"longer than there is", 60, "\x11\x01abcdef1234567", api.ErrShort},
		{"the longest", 60, "\x11\xff" + some(2046) + "datagram", api.OK},
		{"the longest, but one", 60, "\x11\xff" + some(2045), api.ErrShort},
		{"a fragment's head", 44, fragmented + "datagram", api.OK},
		{"a fragment's head alone", 44, fragmented, api.OK},
		{"seven bytes of a fragment's head", 44, fragmented[:7], api.ErrShort},
		{"none of a fragment's head", 44, "", api.ErrShort},
		{"none of a fragment's head behind an extension", 60, "\x2c\x00abcdef", api.ErrShort},
		{"a fragment's head in another one", 44, "\x2c" + fragmented[1:] + "1234567", api.OK},
		{"extensions behind a fragment's head", 44, "\x3c" + fragmented[1:] + "\x3c\x00", api.OK},
		{"no next", 59, "", api.OK},
	} {
		s := head(x.next, x.behind)
		expectCode(t, x.what, asksInside6(t, x.what, s), x.code)
		expectCode(t, x.what, asksInside6(t, x.what, s+"behind all of it, whatever that is"), x.code)
		for cut := range s {
			asksInside6(t, x.what, s[:cut])
		}
	}
	long := head(60, eight+"\x11\x00abcdef")
	for next := range 256 {
		s := changed(long, 6, one(next))
		asksInside6(t, next, s)
		asksInside6(t, next, changed(long, 40, one(next)))
	}
	expectCode(t, "short ahead of the form", asksInside6(t, "short", "\x40"+long[1:39]), api.ErrShort)
	expectCode(t, "form ahead of the chain", asksInside6(t, "form", "\x40"+long[1:]), api.ErrForm)
}

// P15.4: what a fragment's head says, whatever it asks of the data.
func TestInside6Fragment(t *testing.T) {
	for _, w := range []int{0, 1, 2, 6, 7, 8, 9, 15, 16, 0x7ff8, 0x8000, 0x8001, 65528, 65529, 65534, 65535} {
		for _, n := range []int{0, 1, 7, 8, 13} {
			s := changed(bytes6(t, piece6(17, 0, false, some(n))), 40+24+2, two(w))
			p, claim, e := Inside6(s)
			want := piece6(17, w/8*8, w%2 == 1, some(n))
			if e != nil || claim != n || !same6(p, want) {
				t.Errorf("%d, %d: %s, %d, %v", w, n, brief(p), claim, e)
			}
			asksInside6(t, []int{w, n}, s)
		}
	}
	s := bytes6(t, piece6(17, 0, false, "datagram"))
	expectCode(t, "what is nobody's", asksInside6(t, "nobody's", changed(s, 40+24+1, "\xff")), api.OK)
	for _, id := range []uint32{0, 1, 65535, 65536, 1 << 31, 1<<32 - 1} {
		p, _, e := Inside6(changed(s, 40+24+4, two(int(id>>16))+two(int(id))))
		if e != nil || p.Id != id {
			t.Errorf("%d: %d, %v", id, p.Id, e)
		}
	}
}

// P15.4: any bit of the heads turned.
func TestInside6Bits(t *testing.T) {
	for _, p := range []api.Ip6{packet6(6, some(40)), piece6(6, 80, true, some(40))} {
		s := bytes6(t, p)
		for bit := range 80 * 8 {
			b := []byte(s)
			b[bit/8] ^= 1 << (bit % 8)
			asksInside6(t, bit, string(b))
		}
	}
}

// R4: what is answered is new memory.
func TestInside6NewMemory(t *testing.T) {
	s := bytes6(t, packet6(6, some(40)))
	p, _, _ := Inside6(s)
	was := slices.Clone(p.Exts)
	q, _, _ := Inside6(s)
	q.Exts[0].Kind, q.Exts[1].Body = 99, ""
	_ = append(q.Exts[:1], api.Ext{Kind: 98})
	if !slices.Equal(p.Exts, was) {
		t.Errorf("%v", p.Exts)
	}
	x, e := ip6.Parse(s)
	if e != nil || !slices.Equal(x.Exts, was) {
		t.Errorf("%v, %v", x.Exts, e)
	}
	_, _, e = Inside6("")
	_, _, f := Inside6("")
	if e == f {
		t.Error("two errors are one fault")
	}
}
