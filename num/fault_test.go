package num

import (
	"errors"
	"fmt"
	"math"
	"testing"

	"interpreter/api"
)

// plain is an error that is no fault and wraps none.
type plain struct{}

func (plain) Error() string { return "fault 7 at 3" }

// broken is an error whose Unwrap panics if it is nil.
type broken struct{ inner error }

func (b *broken) Error() string { return "broken" }
func (b *broken) Unwrap() error { return b.inner }

// lends is an error that is no fault but gives one out by its method As.
type lends struct{ fault *Fault }

func (l lends) Error() string { return "lends" }
func (l lends) As(target any) bool {
	f, ok := target.(**Fault)
	if ok {
		*f = l.fault
	}
	return ok
}

// spoils is an error whose method As gives out a fault and then panics.
type spoils struct{}

func (spoils) Error() string { return "spoils" }
func (spoils) As(target any) bool {
	if f, ok := target.(**Fault); ok {
		*f = &Fault{api.ErrShort, 3}
	}
	panic("spoilt")
}

// nested is an error wrapped many times over.
func nested(e error, times int) error {
	for range times {
		e = &broken{e}
	}
	return e
}

// P1.1: what a fault says.
func TestErrorSays(t *testing.T) {
	for _, x := range []struct {
		fault *Fault
		says  string
	}{
		{&Fault{7, 3}, "fault 7 at 3"},
		{&Fault{api.ErrWord, 65575}, "fault 100 at 65575"},
		{&Fault{}, "fault 0 at 0"},
		{nil, "fault 0 at 0"},
		{&Fault{-1, -2}, "fault -1 at -2"},
		{&Fault{math.MaxInt, math.MinInt}, "fault 9223372036854775807 at -9223372036854775808"},
	} {
		if says := x.fault.Error(); says != x.says {
			t.Errorf("%q, not %q", says, x.says)
		}
	}
}

// P1.1: the code and the fault of what is one, or wraps one.
func TestCodeAndOnlyOfFaults(t *testing.T) {
	f := &Fault{api.ErrShort, 3}
	g := &Fault{api.ErrRange, 0}
	zero := &Fault{api.OK, 5}
	odd := &Fault{-77, 5}
	none := (*Fault)(nil)
	for name, x := range map[string]struct {
		e    error
		code api.Errno
		only *Fault
	}{
		"itself":              {f, api.ErrShort, f},
		"code 0":              {zero, api.OK, zero},
		"no such code":        {odd, -77, odd},
		"wrapped":             {fmt.Errorf("read: %w", f), api.ErrShort, f},
		"wrapped twice":       {fmt.Errorf("a: %w", fmt.Errorf("b: %w", f)), api.ErrShort, f},
		"wrapped deep":        {nested(f, 1<<16), api.ErrShort, f},
		"joined, one behind":  {errors.Join(plain{}, g), api.ErrRange, g},
		"joined, first tells": {errors.Join(f, g), api.ErrShort, f},
		"given out by As":     {lends{g}, api.ErrRange, g},
		"a nil fault":         {none, api.OK, none},
		"a nil fault wrapped": {fmt.Errorf("read: %w", none), api.OK, none},
		"a nil fault lent":    {lends{nil}, api.OK, none},
	} {
		if code := Code(x.e); code != x.code {
			t.Errorf("%s: code %d, not %d", name, code, x.code)
		}
		if only := Only(x.e); only != x.only {
			t.Errorf("%s: %v, not %v", name, only, x.only)
		}
	}
}

// panics says whether a call does.
func panics(call func()) (did bool) {
	defer func() { did = recover() != nil }()
	call()
	return false
}

// P1.1: of any other error the code is ErrKind and Only panics, also of nil.
func TestCodeAndOnlyOfOthers(t *testing.T) {
	for name, e := range map[string]error{
		"another":                 errors.New("fault 7 at 3"),
		"another type":            plain{},
		"wraps another":           fmt.Errorf("read: %w", plain{}),
		"tells but does not wrap": fmt.Errorf("read: %v", &Fault{api.ErrShort, 3}),
		"joins others":            errors.Join(plain{}, errors.New("x")),
		"wraps nothing":           &broken{},
		"nil and can't unwrap":    (*broken)(nil),
		"wraps such a one":        fmt.Errorf("read: %w", (*broken)(nil)),
		"panics in As":            spoils{},
	} {
		if code := Code(e); code != api.ErrKind {
			t.Errorf("%s: code %d", name, code)
		}
		if !panics(func() { Only(e) }) {
			t.Errorf("%s: Only did not panic", name)
		}
	}
	if code := Code(nil); code != api.OK {
		t.Errorf("nil: code %d", code)
	}
	if !panics(func() { Only(nil) }) {
		t.Error("nil: Only did not panic")
	}
}
