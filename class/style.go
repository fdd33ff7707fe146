package class

// A style is how numbers stand in a word.
type style struct {
	mark    rune // stands between two of them
	base    int
	digits  int  // how many digits one has at most
	most    int  // the greatest one
	noughts bool // noughts may stand ahead of one's other digits
	count   int  // how many there are at most
}

// A number is one of a word's, as far as it is read.
type number struct {
	value, digits int
}

// read is the numbers of a word, at least one, and whether each is as the style asks for.
func (w style) read(s string) ([]int, bool) {
	var numbers []int
	var n number
	for _, r := range s {
		if r == w.mark {
			// the last number that may be has nothing behind it
			if !w.whole(n) || len(numbers) == w.count-1 {
				return nil, false
			}
			numbers, n = append(numbers, n.value), number{}
			continue
		}
		var ok bool
		if n, ok = w.next(n, r); !ok {
			return nil, false
		}
	}
	if !w.whole(n) {
		return nil, false
	}
	return append(numbers, n.value), true
}

// next is a number with one more digit, if that may stand behind.
func (w style) next(n number, r rune) (number, bool) {
	d := digit(r)
	if d >= w.base || n.digits == w.digits || n.digits > 0 && n.value == 0 && !w.noughts {
		return number{}, false
	}
	return number{value: n.value*w.base + d, digits: n.digits + 1}, true
}

// whole says whether a number may end here.
func (w style) whole(n number) bool {
	return n.digits > 0 && n.value <= w.most
}

// digit is a digit's value, or for any other rune one that no base has.
func digit(r rune) int {
	switch {
	case '0' <= r && r <= '9':
		return int(r - '0')
	case 'a' <= r && r <= 'f':
		return int(r-'a') + decimal
	case 'A' <= r && r <= 'F':
		return int(r-'A') + decimal
	}
	return hexadecimal
}
