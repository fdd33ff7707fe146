package num

import (
	"math"
	"math/rand"
	"testing"

	"interpreter/api"
)

// is says whether an error is itself the fault of a code and a place; with OK, whether there is none.
func is(e error, code api.Errno, at int) bool {
	if code == api.OK {
		return e == nil
	}
	f, ok := e.(*Fault)
	return ok && f != nil && *f == Fault{code, at}
}

// wantNumber holds a number that was read against what it has to be.
func wantNumber(t *testing.T, name string, x int, e error, want int, code api.Errno, at int) {
	t.Helper()
	if x != want || !is(e, code, at) {
		t.Errorf("%s: %d, %v, not %d, %d at %d", name, x, e, want, code, at)
	}
}

// wantPlace holds a reader's place against what it has to be.
func wantPlace(t *testing.T, r *Reader, at, left int) {
	t.Helper()
	if r.At() != at || r.Left() != left {
		t.Errorf("at %d, left %d, not %d, %d", r.At(), r.Left(), at, left)
	}
}

// The chapter's first example.
func TestExampleReader(t *testing.T) {
	r := New("\x01\x02\x03\x04")
	x, e := r.U16()
	wantNumber(t, "U16", x, e, 258, api.OK, 0)
	x, e = r.U8()
	wantNumber(t, "U8", x, e, 3, api.OK, 0)
	x, e = r.U16()
	wantNumber(t, "U16", x, e, 0, api.ErrShort, 3)
	x, e = r.U8()
	wantNumber(t, "U8", x, e, 0, api.ErrShort, 3)
	wantPlace(t, r, 3, 1)
}

// The chapter's other examples.
func TestExampleBig(t *testing.T) {
	if s, e := Big(258, 2); s != "\x01\x02" || e != nil {
		t.Errorf("%q, %v", s, e)
	}
	if s, e := Big(256, 1); s != "" || !is(e, api.ErrRange, 0) {
		t.Errorf("%q, %v", s, e)
	}
	if s, e := Big(1, 3); s != "" || !is(e, api.ErrArg, 0) {
		t.Errorf("%q, %v", s, e)
	}
	if Code(nil) != api.OK || (&Fault{7, 3}).Error() != "fault 7 at 3" {
		t.Error("Code, Error")
	}
}

// P1.2: the numbers of each size, the least and the greatest ones too, highest byte first.
func TestNumbers(t *testing.T) {
	for _, x := range []struct {
		name string
		read func(*Reader) (int, error)
		text string
		want int
	}{
		{"U8", (*Reader).U8, "\x00", 0},
		{"U8", (*Reader).U8, "\x7f", 127},
		{"U8", (*Reader).U8, "\x80", 128},
		{"U8", (*Reader).U8, "\xff", 255},
		{"U16", (*Reader).U16, "\x00\x00", 0},
		{"U16", (*Reader).U16, "\x01\x02", 0x0102},
		{"U16", (*Reader).U16, "\x80\x00", 0x8000},
		{"U16", (*Reader).U16, "\xff\xff", 65535},
		{"U32", (*Reader).U32, "\x00\x00\x00\x00", 0},
		{"U32", (*Reader).U32, "\x01\x02\x03\x04", 0x01020304},
		{"U32", (*Reader).U32, "\x80\x00\x00\x00", 1 << 31},
		{"U32", (*Reader).U32, "\xff\xff\xff\xff", 4294967295},
	} {
		for _, behind := range []string{"", "\x55\xaa"} {
			r := New(x.text + behind)
			got, e := x.read(r)
			wantNumber(t, x.name, got, e, x.want, api.OK, 0)
			wantPlace(t, r, len(x.text), len(behind))
		}
	}
}

// P1.2: with too few bytes, each number is refused at the reader's place, which stays.
func TestTooFewBytes(t *testing.T) {
	for _, x := range []struct {
		name string
		read func(*Reader) (int, error)
		size int
	}{{"U8", (*Reader).U8, 1}, {"U16", (*Reader).U16, 2}, {"U32", (*Reader).U32, 4}} {
		for left := range x.size {
			for ahead := range 3 {
				r := New("\xff\xff\xff\xff\xff\xff"[:ahead+left])
				r.Text(ahead)
				got, e := x.read(r)
				wantNumber(t, x.name, got, e, 0, api.ErrShort, ahead)
				wantPlace(t, r, ahead, left)
			}
		}
	}
}

// P1.2: texts of every length that there may be, and of those that may not.
func TestText(t *testing.T) {
	const text = "a\x00\xff\xc3d"
	for n := range len(text) + 1 {
		r := New(text)
		if s, e := r.Text(n); s != text[:n] || e != nil {
			t.Errorf("Text(%d): %q, %v", n, s, e)
		}
		wantPlace(t, r, n, len(text)-n)
	}
	for _, x := range []struct {
		n    int
		code api.Errno
	}{
		{4, api.ErrShort}, {5, api.ErrShort}, {math.MaxInt, api.ErrShort}, {math.MaxInt - 1, api.ErrShort},
		{-1, api.ErrArg}, {-2, api.ErrArg}, {math.MinInt, api.ErrArg},
	} {
		r := New(text)
		r.U16()
		if s, e := r.Text(x.n); s != "" || !is(e, x.code, 2) {
			t.Errorf("Text(%d): %q, %v", x.n, s, e)
		}
		wantPlace(t, r, 2, 3)
	}
	r := New("")
	for range 2 {
		if s, e := r.Text(0); s != "" || e != nil {
			t.Errorf("Text(0) of nothing: %q, %v", s, e)
		}
	}
}

// wantFault asks a reader for everything, and wants one fault, and no byte, each time.
func wantFault(t *testing.T, r *Reader, code api.Errno, at, left int) {
	t.Helper()
	for range 2 {
		x, e := r.U8()
		wantNumber(t, "U8", x, e, 0, code, at)
		x, e = r.U16()
		wantNumber(t, "U16", x, e, 0, code, at)
		x, e = r.U32()
		wantNumber(t, "U32", x, e, 0, code, at)
		for _, n := range []int{0, 1, -1, math.MaxInt, math.MinInt} {
			if s, e := r.Text(n); s != "" || !is(e, code, at) {
				t.Errorf("Text(%d): %q, %v", n, s, e)
			}
		}
		if s := r.Rest(); s != "" {
			t.Errorf("Rest: %q", s)
		}
		wantPlace(t, r, at, left)
	}
}

// P1.2, P1.3: the first fault is told ever after, whatever is asked then, and Rest is nothing.
func TestFaultStays(t *testing.T) {
	r := New("abc")
	r.U8()
	r.U32()
	wantFault(t, r, api.ErrShort, 1, 2)

	r = New("abc")
	r.Text(-1)
	wantFault(t, r, api.ErrArg, 0, 3)

	r = New("")
	r.U16()
	wantFault(t, r, api.ErrShort, 0, 0)

	r = New("abc")
	r.Rest()
	r.U8()
	wantFault(t, r, api.ErrShort, 3, 0)
}

// R4: a fault that was told is the caller's own; what he does with it the reader does not learn.
func TestFaultIsNewMemory(t *testing.T) {
	r := New("abc")
	_, e := r.U32()
	*Only(e) = Fault{api.ErrKind, 99}
	wantFault(t, r, api.ErrShort, 0, 3)
}

// P1.3: Rest, At and Left as the reader goes on.
func TestRest(t *testing.T) {
	r := New("\x01\x02\xff\x00z")
	wantPlace(t, r, 0, 5)
	r.U16()
	wantPlace(t, r, 2, 3)
	if s := r.Rest(); s != "\xff\x00z" {
		t.Errorf("%q", s)
	}
	wantPlace(t, r, 5, 0)
	if s := r.Rest(); s != "" {
		t.Errorf("again: %q", s)
	}
	if s, e := r.Text(0); s != "" || e != nil {
		t.Errorf("Rest at the end is no fault: %q, %v", s, e)
	}
	if s := New("whole").Rest(); s != "whole" {
		t.Errorf("%q", s)
	}
	if s := New("").Rest(); s != "" {
		t.Errorf("%q", s)
	}
}

// P1.3: a nil reader; a reader that nobody gave a text has an empty one.
func TestNilReader(t *testing.T) {
	wantFault(t, nil, api.ErrNil, 0, 0)
	r := &Reader{}
	wantPlace(t, r, 0, 0)
	if s := r.Rest(); s != "" {
		t.Errorf("%q", s)
	}
	x, e := r.U8()
	wantNumber(t, "U8", x, e, 0, api.ErrShort, 0)
}

// R3: readers of one text know nothing of one another.
func TestReadersApart(t *testing.T) {
	const text = "abc"
	p, q := New(text), New(text)
	p.Rest()
	p.U8()
	x, e := q.U8()
	wantNumber(t, "U8", x, e, 'a', api.OK, 0)
	wantPlace(t, q, 1, 2)
	wantPlace(t, p, 3, 0)
}

// P1.4: numbers of each size, the least and the greatest ones, and those beyond.
func TestBig(t *testing.T) {
	for _, x := range []struct {
		x, n int
		s    string
		code api.Errno
	}{
		{0, 1, "\x00", api.OK},
		{255, 1, "\xff", api.OK},
		{256, 1, "", api.ErrRange},
		{-1, 1, "", api.ErrRange},
		{0, 2, "\x00\x00", api.OK},
		{0x0102, 2, "\x01\x02", api.OK},
		{65535, 2, "\xff\xff", api.OK},
		{65536, 2, "", api.ErrRange},
		{-1, 2, "", api.ErrRange},
		{0, 4, "\x00\x00\x00\x00", api.OK},
		{0x01020304, 4, "\x01\x02\x03\x04", api.OK},
		{1 << 31, 4, "\x80\x00\x00\x00", api.OK},
		{1<<32 - 1, 4, "\xff\xff\xff\xff", api.OK},
		{1 << 32, 4, "", api.ErrRange},
		{-1, 4, "", api.ErrRange},
		{math.MaxInt, 4, "", api.ErrRange},
		{math.MinInt, 4, "", api.ErrRange},
	} {
		if s, e := Big(x.x, x.n); s != x.s || !is(e, x.code, 0) {
			t.Errorf("Big(%d, %d): %q, %v", x.x, x.n, s, e)
		}
	}
}

// P1.4: a size that is none is told ahead of a number that is out of range.
func TestBigOfOtherSizes(t *testing.T) {
	for _, n := range []int{math.MinInt, -4, -1, 0, 3, 5, 6, 7, 8, 16, 64, math.MaxInt} {
		for _, x := range []int{math.MinInt, -1, 0, 1, 255, 1 << 32, math.MaxInt} {
			if s, e := Big(x, n); s != "" || !is(e, api.ErrArg, 0) {
				t.Errorf("Big(%d, %d): %q, %v", x, n, s, e)
			}
		}
	}
}

// readSize reads a number of so many bytes.
func readSize(r *Reader, n int) (int, error) {
	switch n {
	case 1:
		return r.U8()
	case 2:
		return r.U16()
	}
	return r.U32()
}

// P1.5: every number of one byte and of two, and some of four, is read back.
func TestWrittenIsReadBack(t *testing.T) {
	back := func(x, n int) {
		s, e := Big(x, n)
		if e != nil || len(s) != n {
			t.Fatalf("Big(%d, %d): %q, %v", x, n, s, e)
		}
		got, e := readSize(New(s), n)
		wantNumber(t, "read back", got, e, x, api.OK, 0)
	}
	for x := range 1 << 8 {
		back(x, 1)
	}
	for x := range 1 << 16 {
		back(x, 2)
	}
	for x := 0; x < 1<<32; x += 65521 {
		back(x, 4)
	}
}

// P1.5: what was written in some sizes is read back in them, and in whatever others, byte by byte.
func TestReadBackInWhateverSizes(t *testing.T) {
	chance := rand.New(rand.NewSource(1))
	for range 200 {
		text := ""
		var numbers, lengths []int
		for range chance.Intn(20) {
			n := 1 << chance.Intn(3)
			x := chance.Intn(1 << (8 * n))
			s, _ := Big(x, n)
			text, numbers, lengths = text+s, append(numbers, x), append(lengths, n)
		}
		r := New(text)
		for i, n := range lengths {
			x, e := readSize(r, n)
			wantNumber(t, "as written", x, e, numbers[i], api.OK, 0)
		}
		wantPlace(t, r, len(text), 0)
		if got := inSomeSizes(t, New(text), chance); got != text {
			t.Errorf("%q, not %q", got, text)
		}
	}
}

// inSomeSizes reads a whole text by sizes of chance, and is what it read, written again.
func inSomeSizes(t *testing.T, r *Reader, chance *rand.Rand) string {
	t.Helper()
	text := ""
	for r.Left() > 0 {
		n := 1 << chance.Intn(3)
		if n > r.Left() {
			n = 1
		}
		x, e := readSize(r, n)
		if e != nil {
			t.Fatal(e)
		}
		s, _ := Big(x, n)
		text += s
	}
	return text
}

// FuzzReader is P1.5: whatever is asked, a reader never goes beyond its text, its place never falls, and what it answers is what stands there.
func FuzzReader(f *testing.F) {
	f.Add("", "\x00")
	f.Add("\x01\x02\x03\x04", "\x01\x00\x01\x00")
	f.Add("abcdefgh", "\x02\x04\x03\x01\x08\x00")
	f.Add("abcdefgh", "\x01\x05\x02")
	f.Add("abcdefgh", "\x00\x07\x02\x04")
	f.Fuzz(func(t *testing.T, text, asks string) {
		r := New(text)
		var told error
		for i := range len(asks) {
			at := r.At()
			s, e, must := ask(r, int(asks[i]))
			if r.At() < at || r.At() > len(text) || r.Left() != len(text)-r.At() || s != text[at:r.At()] {
				t.Fatalf("%d: at %d, then %d, left %d: %q", asks[i], at, r.At(), r.Left(), s)
			}
			if e != nil && r.At() != at || told != nil && r.At() != at {
				t.Fatalf("%d: moved with a fault", asks[i])
			}
			if told != nil && must && (e == nil || *Only(e) != *Only(told)) {
				t.Fatalf("%d: %v, and before %v", asks[i], e, told)
			}
			if told == nil {
				told = e
			}
		}
	})
}

// ask asks a reader for something by a number; must says whether a fault has to be told there.
func ask(r *Reader, what int) (s string, e error, must bool) {
	switch {
	case what < 3:
		n := 1 << what
		x, e := readSize(r, n)
		if e == nil {
			s, _ = Big(x, n)
		}
		return s, e, true
	case what == 3:
		return r.Rest(), nil, false
	}
	s, e = r.Text(what - 5)
	return s, e, true
}
