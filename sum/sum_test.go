package sum

import (
	"math"
	"math/rand"
	"slices"
	"strings"
	"testing"

	"interpreter/api"
)

// words is the words of a text, as the chapter says them.
func words(text string) []int {
	if len(text)%2 == 1 {
		text += "\x00"
	}
	var list []int
	for i := 0; i < len(text); i += 2 {
		list = append(list, int(text[i])*256+int(text[i+1]))
	}
	return list
}

// totalOf is the total of some numbers, as the chapter says it.
func totalOf(numbers []int) int {
	n := 0
	for _, x := range numbers {
		n += x
	}
	for n > 65535 {
		n = n/65536 + n%65536
	}
	return n
}

// sumOf is a text's sum, as the chapter says it.
func sumOf(text string) int { return 65535 - totalOf(words(text)) }

// updated is what Update has to answer, as the chapter says it.
func updated(sum int, old, new string) int {
	numbers := []int{65535 - (sum%65536+65536)%65536}
	for _, w := range words(old) {
		numbers = append(numbers, 65535-w)
	}
	return 65535 - totalOf(append(numbers, words(new)...))
}

// someText is a text of chance; noughts and 255s are more often in some than in others.
func someText(chance *rand.Rand, n int) string {
	b := make([]byte, n)
	chance.Read(b)
	likely, often := byte(255*chance.Intn(2)), chance.Intn(4)
	for i := range b {
		if chance.Intn(4) < often {
			b[i] = likely
		}
	}
	return string(b)
}

// P2.1: sums of pieces, the chapter's examples and RFC 1071's among them.
func TestOf(t *testing.T) {
	for name, x := range map[string]struct {
		pieces []string
		sum    int
	}{
		"no piece":                  {nil, 65535},
		"an empty list":             {[]string{}, 65535},
		"an empty piece":            {[]string{""}, 65535},
		"some empty pieces":         {[]string{"", "", ""}, 65535},
		"a nought":                  {[]string{"\x00"}, 65535},
		"noughts":                   {[]string{"\x00\x00", "\x00"}, 65535},
		"the chapter's":             {[]string{"\x45\x00\x00\x1c"}, 0xbae3},
		"the chapter's, cut":        {[]string{"\x45", "\x00\x00\x1c"}, 0xbae3},
		"the document's":            {[]string{"\x45\x00\x00\x1d"}, 0xbae2},
		"RFC 1071's":                {[]string{"\x00\x01\xf2\x03\xf4\xf5\xf6\xf7"}, 0x220d},
		"a single byte":             {[]string{"\x01"}, 0xfeff},
		"a last single byte":        {[]string{"\x01\x02\x03"}, 0xffff - 0x0402},
		"one and one byte":          {[]string{"\x01", "\x02"}, 0xffff - 0x0102},
		"one, one and one byte":     {[]string{"\x01", "\x02", "\x03"}, 0xffff - 0x0402},
		"three and one":             {[]string{"\x01\x02\x03", "\x04"}, 0xffff - 0x0406},
		"one and three":             {[]string{"\x01", "\x02\x03\x04"}, 0xffff - 0x0406},
		"three and three":           {[]string{"\x01\x02\x03", "\x04\x05\x06"}, 0xffff - 0x090c},
		"an empty one between odds": {[]string{"\x01", "", "\x02"}, 0xffff - 0x0102},
		"empty ones around":         {[]string{"", "\x01\x02", ""}, 0xffff - 0x0102},
		"a total of 65534":          {[]string{"\xff\xfe"}, 1},
		"a total of 65535":          {[]string{"\xff\xff"}, 0},
		"added 65535":               {[]string{"\xff\xfe\x00\x01"}, 0},
		"added 65536":               {[]string{"\xff\xff\x00\x01"}, 65534},
		"added 131070":              {[]string{"\xff\xff\xff\xff"}, 0},
		"added 131071, twice above": {[]string{"\xff\xff\xff\xff\x00\x01"}, 65534},
		"the single byte above":     {[]string{"\xff\xff\x01"}, 0xffff - 0x0100},
		"beyond 32 bits":            {[]string{strings.Repeat("\xff", 1<<20)}, 0},
		"beyond 32 bits, odd":       {[]string{strings.Repeat("\xff", 1<<20+1)}, 255},
	} {
		if sum := Of(x.pieces...); sum != x.sum {
			t.Errorf("%s: %04x, not %04x", name, sum, x.sum)
		}
		if right := Right(x.pieces...); right != (x.sum == 0) {
			t.Errorf("%s: right is %v", name, right)
		}
	}
}

// cut is a text in pieces of chance, empty ones among them.
func cut(chance *rand.Rand, text string) []string {
	pieces := []string{}
	for text != "" {
		n := min(chance.Intn(6), len(text))
		pieces, text = append(pieces, text[:n]), text[n:]
	}
	return pieces
}

// P2.1: however a text is cut in pieces, its sum is that of the words of the whole.
func TestOfHoweverCut(t *testing.T) {
	chance := rand.New(rand.NewSource(2))
	for range 2000 {
		text := someText(chance, chance.Intn(50))
		pieces := cut(chance, text)
		if sum := Of(pieces...); sum != sumOf(text) || Of(text) != sum || Right(pieces...) != (sum == 0) {
			t.Fatalf("%q: %04x, not %04x", pieces, sum, sumOf(text))
		}
	}
}

// P2.1: a text of two words is right just if they add up to 65535, or both are 65535.
func TestRightOfTwoWords(t *testing.T) {
	for w := range 65536 {
		for _, v := range []int{65535 - w, w, 65535, 0} {
			text := string([]byte{byte(w >> 8), byte(w), byte(v >> 8), byte(v)})
			if right := Right(text); right != (w+v == 65535 || w+v == 2*65535) {
				t.Fatalf("%04x %04x: right is %v", w, v, right)
			}
		}
	}
}

// R4: the list of pieces and what is behind it stay as they were.
func TestPiecesStay(t *testing.T) {
	room := []string{"\x01", "", "\x02\x03", "spare", "room"}
	was := slices.Clone(room)
	Of(room[:3]...)
	Right(room[:3]...)
	if !slices.Equal(room, was) {
		t.Errorf("%q", room)
	}
}

// P2.2: what a sum becomes, the chapter's examples and RFC 1624's among them.
func TestUpdate(t *testing.T) {
	for name, x := range map[string]struct {
		sum      int
		old, new string
		want     int
	}{
		"the chapter's":             {47843, "\x00\x1c", "\x00\x1d", 47842},
		"the chapter's, to 0":       {65534, "\x00\x01", "\x00\x00", 0},
		"RFC 1624's":                {0xdd2f, "\x55\x55", "\x32\x85", 0},
		"nothing for nothing":       {0x1234, "", "", 0x1234},
		"nothing for nothing, 0":    {0, "", "", 0},
		"nothing for nothing, most": {65535, "", "", 65535},
		"the same":                  {0x1234, "\xab\xcd", "\xab\xcd", 0x1234},
		"the same, 65535":           {65535, "\xab\xcd", "\xab\xcd", 0},
		"more":                      {0x1234, "", "\x00\x04", 0x1230},
		"less":                      {0x1230, "\x00\x04", "", 0x1234},
		"longer":                    {0x1234, "\x00\x04", "\x00\x01\x00\x02\x00\x03", 0x1232},
		"shorter":                   {0x1232, "\x00\x01\x00\x02\x00\x03", "\x00\x04", 0x1234},
		"noughts for nothing":       {0x1234, "", "\x00\x00\x00\x00", 0x1234},
		"nothing for noughts":       {0x1234, "\x00\x00\x00\x00", "", 0x1234},
		"nothing for noughts, most": {65535, "\x00\x00", "", 0},
		"a single nought, most":     {65535, "\x00", "", 0},
		"the same single one, most": {65535, "\x01", "\x01", 0},
		"single bytes":              {0x1234, "\x01", "\x03", 0x1034},
		"a last single byte of old": {0x1234, "\x00\x01\x02", "", 0x1435},
		"a last single byte of new": {0x1234, "", "\x00\x01\x02", 0x1033},
		"odd ones do not join":      {0x1234, "\x01", "\x00\x00\x02", 0x1134},
		"above 65535":               {0, "\x00\x00", "\xff\xff\xff\xff\x00\x02", 65533},
		"sum 65536":                 {65536, "\x00\x01", "\x00\x01", 0},
		"sum above 65536":           {65536 + 47843, "\x00\x1c", "\x00\x1d", 47842},
		"sum far above":             {5<<32 + 47843, "\x00\x1c", "\x00\x1d", 47842},
		"sum -1 is 65535":           {-1, "", "", 65535},
		"sum -65535 is 1":           {-65535, "", "", 1},
		"sum -65536 is 0":           {-65536, "", "", 0},
		"sum below 0":               {47843 - 65536, "\x00\x1c", "\x00\x1d", 47842},
		"sum far below 0":           {47843 - 7<<32, "\x00\x1c", "\x00\x1d", 47842},
		"the greatest sum":          {math.MaxInt, "", "", 65535},
		"the least sum":             {math.MinInt, "", "", 0},
	} {
		if sum := Update(x.sum, x.old, x.new); sum != x.want {
			t.Errorf("%s: %04x, not %04x", name, sum, x.want)
		}
		if want := updated(x.sum, x.old, x.new); want != x.want {
			t.Errorf("%s: the chapter's words say %04x, not %04x", name, want, x.want)
		}
	}
	long := strings.Repeat("\xff", 1<<20)
	if sum := Update(0, strings.Repeat("\x00", 1<<20), long+"\x01"); sum != updated(0, strings.Repeat("\x00", 1<<20), long+"\x01") {
		t.Errorf("beyond 32 bits: %04x", sum)
	}
}

// P2.2: whatever the sum and the lengths of old and new.
func TestUpdateOfWhatever(t *testing.T) {
	chance := rand.New(rand.NewSource(3))
	for range 5000 {
		sum := chance.Intn(1<<18) - 1<<17
		old, new := someText(chance, chance.Intn(9)), someText(chance, chance.Intn(9))
		if got := Update(sum, old, new); got != updated(sum, old, new) {
			t.Fatalf("Update(%d, %q, %q): %04x, not %04x", sum, old, new, got, updated(sum, old, new))
		}
	}
}

// P2.3: the head over IPv4, its protocol modulo 256 and its length modulo 65536.
func TestPseudo4(t *testing.T) {
	from, to := api.V4{1, 2, 3, 4}, api.V4{250, 251, 252, 253}
	const begins = "\x01\x02\x03\x04\xfa\xfb\xfc\xfd"
	for _, x := range []struct {
		proto, length int
		ends          string
	}{
		{17, 9, "\x00\x11\x00\x09"},
		{0, 0, "\x00\x00\x00\x00"},
		{255, 65535, "\x00\xff\xff\xff"},
		{256, 65536, "\x00\x00\x00\x00"},
		{256 + 6, 65536 + 0x1234, "\x00\x06\x12\x34"},
		{0x10111, 0x101234, "\x00\x11\x12\x34"},
		{-1, -1, "\x00\xff\xff\xff"},
		{-256, -65536, "\x00\x00\x00\x00"},
		{6 - 256, 0x1234 - 65536, "\x00\x06\x12\x34"},
		{math.MaxInt, math.MinInt, "\x00\xff\x00\x00"},
		{math.MinInt, math.MaxInt, "\x00\x00\xff\xff"},
	} {
		if s := Pseudo4(from, to, x.proto, x.length); s != begins+x.ends {
			t.Errorf("%d, %d: %q", x.proto, x.length, s)
		}
	}
	if s := Pseudo4(api.V4{10, 0, 0, 1}, api.V4{10, 0, 0, 2}, 17, 9); s != "\x0a\x00\x00\x01\x0a\x00\x00\x02\x00\x11\x00\x09" {
		t.Errorf("the chapter's: %q", s)
	}
}

// P2.3: the head over IPv6, its length modulo 2^32 and its protocol modulo 256.
func TestPseudo6(t *testing.T) {
	const begins = "\x20\x01\x0d\xb8\x04\x05\x06\x07\x08\x09\x0a\x0b\x0c\x0d\x0e\x0f\xff\x02\xa2\xa3\xa4\xa5\xa6\xa7\xa8\xa9\xaa\xab\xac\xad\xae\xaf"
	from, to := api.V6([]byte(begins[:16])), api.V6([]byte(begins[16:]))
	for _, x := range []struct {
		next, length int
		ends         string
	}{
		{58, 9, "\x00\x00\x00\x09\x00\x00\x00\x3a"},
		{0, 0, "\x00\x00\x00\x00\x00\x00\x00\x00"},
		{17, 0x01020304, "\x01\x02\x03\x04\x00\x00\x00\x11"},
		{6, 65536, "\x00\x01\x00\x00\x00\x00\x00\x06"},
		{255, 1<<32 - 1, "\xff\xff\xff\xff\x00\x00\x00\xff"},
		{256, 1 << 32, "\x00\x00\x00\x00\x00\x00\x00\x00"},
		{256 + 6, 1<<32 + 0x01020304, "\x01\x02\x03\x04\x00\x00\x00\x06"},
		{-1, -1, "\xff\xff\xff\xff\x00\x00\x00\xff"},
		{-256, -1 << 32, "\x00\x00\x00\x00\x00\x00\x00\x00"},
		{6 - 256, 0x01020304 - 1<<32, "\x01\x02\x03\x04\x00\x00\x00\x06"},
		{math.MaxInt, math.MinInt, "\x00\x00\x00\x00\x00\x00\x00\xff"},
		{math.MinInt, math.MaxInt, "\xff\xff\xff\xff\x00\x00\x00\x00"},
	} {
		if s := Pseudo6(from, to, x.next, x.length); s != begins+x.ends {
			t.Errorf("%d, %d: %q", x.next, x.length, s)
		}
	}
}

// put is a text with something else at a place.
func put(text string, at int, piece string) string {
	return text[:at] + piece + text[at+len(piece):]
}

// word is a word's two bytes.
func word(w int) string { return string([]byte{byte(w >> 8), byte(w)}) }

// kept says whether a text with another piece and its sum updated is right; wanted, whether that is promised of it.
func kept(text string, sumAt, at int, piece string) (right, wanted bool) {
	sum := words(text[sumAt : sumAt+2])[0]
	text = put(put(text, sumAt, word(Update(sum, text[at:at+len(piece)], piece))), at, piece)
	beside := text[:sumAt] + text[sumAt+2:]
	return Right(text), strings.Trim(beside, "\x00") != ""
}

// P2.4: a right text with another piece, and its sum updated, is right.
func TestUpdatedStaysRight(t *testing.T) {
	chance := rand.New(rand.NewSource(4))
	asked := 0
	for range 20000 {
		text := someText(chance, 4+chance.Intn(30))
		sumAt := 2 * chance.Intn(len(text)/2)
		text = put(text, sumAt, "\x00\x00")
		text = put(text, sumAt, word(Of(text)))
		if !Right(text) {
			t.Fatalf("%q is not right", text)
		}
		at := 2 * chance.Intn(len(text)/2)
		room := len(text) - at
		if at < sumAt {
			room = sumAt - at
		}
		if at == sumAt {
			continue
		}
		piece := someText(chance, 2*chance.Intn(room/2+1))
		if right, wanted := kept(text, sumAt, at, piece); wanted && !right {
			t.Fatalf("%q, its sum at %d, with %q at %d: not right", text, sumAt, piece, at)
		}
		asked++
	}
	if asked < 10000 {
		t.Errorf("only %d asked", asked)
	}
}

// P2.4: what is promised does not reach texts of noughts beside the sum; with one bit there, it does.
func TestUpdatedToNoughts(t *testing.T) {
	if right, wanted := kept("\x00\x01\xff\xfe", 2, 0, "\x00\x00"); right || wanted {
		t.Errorf("noughts alone: right is %v, wanted %v", right, wanted)
	}
	if right, wanted := kept("\x00\x01\xff\xfe", 2, 0, "\xff\xff"); !right || !wanted {
		t.Errorf("65535: right is %v, wanted %v", right, wanted)
	}
	if right, wanted := kept("\x00\x00\xff\xff", 2, 0, "\x00\x01"); !right || !wanted {
		t.Errorf("from noughts: right is %v, wanted %v", right, wanted)
	}
	if right, wanted := kept("\x00\x01\xfe\xfe\x01", 2, 0, "\x00\x00"); !right || !wanted {
		t.Errorf("a single byte behind: right is %v, wanted %v", right, wanted)
	}
}

// P2.4: pieces of an even length may stand in any row.
func TestRowOfEvenPieces(t *testing.T) {
	chance := rand.New(rand.NewSource(5))
	for range 500 {
		pieces := make([]string, chance.Intn(7))
		for i := range pieces {
			pieces[i] = someText(chance, 2*chance.Intn(5))
		}
		sum := Of(pieces...)
		chance.Shuffle(len(pieces), func(i, j int) { pieces[i], pieces[j] = pieces[j], pieces[i] })
		if Of(pieces...) != sum {
			t.Fatalf("%q: %04x, not %04x", pieces, Of(pieces...), sum)
		}
	}
	if Of("\x01", "\x02\x03") != 0xffff-0x0402 || Of("\x02\x03", "\x01") != 0xffff-0x0303 {
		t.Error("behind an odd piece the bytes pair otherwise")
	}
}

// P2.4: one bit that is turned turns the sum, wherever it is.
func TestTurnedBitTurnsSum(t *testing.T) {
	chance := rand.New(rand.NewSource(6))
	for range 300 {
		text := someText(chance, chance.Intn(25))
		for bit := range 8 * len(text) {
			b := []byte(text)
			b[bit/8] ^= 1 << (bit % 8)
			if Of(string(b)) == Of(text) {
				t.Fatalf("%q: bit %d", text, bit)
			}
		}
	}
}

// FuzzSum is P2.1 and P2.2, of whatever texts and sum.
func FuzzSum(f *testing.F) {
	f.Add(0, "", "")
	f.Add(47843, "\x00\x1c", "\x00\x1d")
	f.Add(-1, "\xff", "\xff\xff\xff")
	f.Fuzz(func(t *testing.T, sum int, p, q string) {
		if got := Of(p, q); got != sumOf(p+q) || Right(p, q) != (got == 0) {
			t.Errorf("Of(%q, %q): %04x", p, q, got)
		}
		if got := Update(sum, p, q); got != updated(sum, p, q) {
			t.Errorf("Update(%d, %q, %q): %04x", sum, p, q, got)
		}
	})
}
