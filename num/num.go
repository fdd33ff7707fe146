// Package num is layer 1: numbers as bytes, read from a text by a reader that refuses, and the faults that say so (see shared/doc/01-num.md).
package num

import (
	"errors"
	"strconv"

	"interpreter/api"
)

// Fault is an error with a code and a place.
type Fault struct {
	Code api.Errno
	At   int
}

// Error is what a fault says.
func (f *Fault) Error() string {
	if f == nil {
		f = &Fault{}
	}
	return "fault " + strconv.Itoa(int(f.Code)) + " at " + strconv.Itoa(f.At)
}

// Code is an error's code.
func Code(e error) api.Errno {
	if e == nil {
		return api.OK
	}
	f, found := find(e)
	if !found {
		return api.ErrKind
	}
	if f == nil {
		return api.OK
	}
	return f.Code
}

// Only is the fault that an error is, or wraps; it panics where there is none.
func Only(e error) *Fault {
	f, found := find(e)
	if !found {
		panic("num: Only of what is no fault")
	}
	return f
}

// find is the fault that an error is, or wraps.
func find(e error) (f *Fault, found bool) {
	// errors.As calls methods of whatever error came in; Code must not panic because one of those does.
	defer func() {
		if recover() != nil {
			f, found = nil, false
		}
	}()
	found = errors.As(e, &f)
	return f, found
}

// Reader reads numbers and texts from a text, until it tells a fault.
type Reader struct {
	text string
	at   int
	code api.Errno // of the fault that it told; its place is at, which a fault holds fast
}

// New is a reader at a text's beginning.
func New(s string) *Reader { return &Reader{text: s} }

// U8 is the number of the next byte.
func (r *Reader) U8() (int, error) { return r.number(1) }

// U16 is the number of the next 2 bytes.
func (r *Reader) U16() (int, error) { return r.number(2) }

// U32 is the number of the next 4 bytes.
func (r *Reader) U32() (int, error) { return r.number(4) }

// number is that of the next n bytes.
func (r *Reader) number(n int) (int, error) {
	s, e := r.Text(n)
	if e != nil {
		return 0, e
	}
	x := 0
	for i := range len(s) {
		x = x<<8 | int(s[i])
	}
	return x, nil
}

// Text is the next n bytes.
func (r *Reader) Text(n int) (string, error) {
	if r == nil {
		return "", &Fault{Code: api.ErrNil}
	}
	if r.code == api.OK {
		r.code = r.refusal(n)
	}
	if r.code != api.OK {
		// A new one each time: whoever got the one before may have changed it.
		return "", &Fault{Code: r.code, At: r.at}
	}
	s := r.text[r.at : r.at+n]
	r.at += n
	return s, nil
}

// refusal is the code by which n bytes are refused, or OK.
func (r *Reader) refusal(n int) api.Errno {
	switch {
	case n < 0:
		return api.ErrArg
	case n > r.Left():
		return api.ErrShort
	}
	return api.OK
}

// Rest is all the bytes that are left, if the reader has no fault.
func (r *Reader) Rest() string {
	if r == nil || r.code != api.OK {
		return ""
	}
	s := r.text[r.at:]
	r.at = len(r.text)
	return s
}

// At is the reader's place.
func (r *Reader) At() int {
	if r == nil {
		return 0
	}
	return r.at
}

// Left is how many bytes are behind the place.
func (r *Reader) Left() int {
	if r == nil {
		return 0
	}
	return len(r.text) - r.at
}

// Big is a number in n bytes.
func Big(x, n int) (string, error) {
	if n != 1 && n != 2 && n != 4 {
		return "", &Fault{Code: api.ErrArg}
	}
	if x < 0 || x>>(8*n) != 0 {
		return "", &Fault{Code: api.ErrRange}
	}
	b := make([]byte, n)
	for i := range b {
		b[i] = byte(x >> (8 * (n - 1 - i)))
	}
	return string(b), nil
}
