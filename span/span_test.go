package span_test

import (
	"testing"

	"enclosure/api"
	"enclosure/span"
)

// shape is a span, or none, with what is said of it.
type shape struct {
	s   api.Span
	err api.Errno
}

func shapes() []shape {
	return []shape{
		{from(0, 0), api.OK},
		{from(minus, 0), api.OK},
		{from(0, minus), api.OK},
		{from(1, 1), api.OK},
		{from(-2, 3), api.OK},
		{from(4, 5), api.OK},
		{from(-least, least), api.OK},
		{from(-least, minus), api.OK},
		{from(-1, 1), api.OK},
		{from(-most, most), api.OK},
		{from(1, 1-0x1p-53), api.ErrRange},
		{from(2, 1), api.ErrRange},
		{from(least, 0), api.ErrRange},
		{from(least, minus), api.ErrRange},
		{from(0, -least), api.ErrRange},
		{from(-1, -2), api.ErrRange},
		{from(most, -most), api.ErrRange},
		{from(nan, 1), api.ErrNaN},
		{from(1, nan), api.ErrNaN},
		{from(nan, nan), api.ErrNaN},
		{from(1, inf), api.ErrNaN},
		{from(-inf, 1), api.ErrNaN},
		{from(-inf, inf), api.ErrNaN},
		{from(inf, inf), api.ErrNaN},
		{from(-inf, -inf), api.ErrNaN},
		{from(inf, 1), api.ErrNaN}, // and Lo above Hi
		{from(1, -inf), api.ErrNaN},
		{from(inf, -inf), api.ErrNaN},
		{from(inf, nan), api.ErrNaN},
	}
}

func TestCheck(t *testing.T) {
	for _, c := range shapes() {
		if got := span.Check(c.s); got != c.err {
			t.Errorf("Check of %v: %d, want %d", c.s, got, c.err)
		}
	}
}

// twos are the calls of two spans.
func twos() map[string]func(a, b api.Span) (api.Span, api.Errno) {
	return map[string]func(a, b api.Span) (api.Span, api.Errno){
		"Add": span.Add, "Sub": span.Sub, "Mul": span.Mul, "Quo": span.Quo, "Meet": span.Meet,
	}
}

func TestTheFirstSpanIsCheckedAheadOfTheSecond(t *testing.T) {
	for name, call := range twos() {
		for _, a := range shapes() {
			for _, b := range shapes() { // of good ones, some are apart, and some have 0
				want := a.err
				if want == api.OK {
					want = b.err
				}
				if want == api.OK {
					continue
				}
				got, err := call(a.s, b.s)
				told(t, name, []api.Span{a.s, b.s}, got, err, api.Span{}, want)
			}
		}
	}
}

func TestOneSpanIsChecked(t *testing.T) {
	for _, a := range shapes() {
		if a.err == api.OK {
			continue
		}
		got, err := span.Root(a.s)
		told(t, "Root", a.s, got, err, api.Span{}, a.err)
		for n := range api.MaxDegree + 1 {
			got, err = span.Pow(a.s, n)
			told(t, "Pow", []any{a.s, n}, got, err, api.Span{}, a.err)
		}
	}
}

func TestMeet(t *testing.T) {
	for _, c := range []struct {
		a, b, want api.Span
		err        api.Errno
	}{
		{from(0, 2), from(1, 3), from(1, 2), api.OK},
		{from(0, 9), from(2, 3), from(2, 3), api.OK}, // one within the other
		{from(-1, 1), from(-1, 1), from(-1, 1), api.OK},
		{from(-1, 1), from(-1, 0.5), from(-1, 0.5), api.OK},
		{from(-1, 1), from(-0.5, 1), from(-0.5, 1), api.OK},
		{from(0, 1), from(1, 2), from(1, 1), api.OK}, // an end
		{from(5, 5), from(0, 9), from(5, 5), api.OK},
		{from(5, 5), from(5, 5), from(5, 5), api.OK},
		{from(-most, most), from(-least, least), from(-least, least), api.OK},
		{from(-most, 0.1), from(0.1, most), from(0.1, 0.1), api.OK},
		{from(-1, minus), from(0, 1), from(0, 0), api.OK}, // both have 0
		{from(-1, 0), from(minus, 1), from(0, 0), api.OK},
		{from(0, 1), from(2, 3), api.Span{}, api.ErrNone},
		{from(0, 1), from(1+0x1p-52, 3), api.Span{}, api.ErrNone},
		{from(-1, 0), from(least, 3), api.Span{}, api.ErrNone},
		{from(-1, -least), from(0, 3), api.Span{}, api.ErrNone},
		{from(5, 5), from(6, 6), api.Span{}, api.ErrNone},
		{from(-most, -most), from(most, most), api.Span{}, api.ErrNone},
	} {
		got, err := span.Meet(c.a, c.b)
		told(t, "Meet", []api.Span{c.a, c.b}, got, err, c.want, c.err)
		got, err = span.Meet(c.b, c.a)
		told(t, "Meet", []api.Span{c.b, c.a}, got, err, c.want, c.err)
	}
}

func TestMeetHasJustWhatLiesInBoth(t *testing.T) {
	holds := func(s api.Span, x float64) bool { return s.Lo <= x && x <= s.Hi }
	l := spans(1, 1)
	for i, a := range l {
		for k, b := range l {
			if (i+k)%5 != 0 {
				continue
			}
			s, err := span.Meet(a, b)
			if err != api.OK && (err != api.ErrNone || s != api.Span{}) || err == api.OK && s.Lo > s.Hi {
				t.Errorf("Meet of %v and %v: %v %d", a, b, s, err)
			}
			for _, x := range []float64{a.Lo, a.Hi, b.Lo, b.Hi, s.Lo, s.Hi, 0, 1} {
				if both := holds(a, x) && holds(b, x); both != (err == api.OK && holds(s, x)) {
					t.Errorf("Meet of %v and %v: %v %d; %g lies in both: %v", a, b, s, err, x, both)
				}
			}
		}
	}
}
