package flow_test

import (
	"math"
	"slices"
	"testing"

	"enclosure/api"
	"enclosure/flow"
)

// bad is a system of n unknowns, and what is wrong with it.
type bad struct {
	f   []api.Term
	n   int
	err api.Fault
}

func wrongs() []bad {
	good := term(0, 1, 1, 2)
	many := slices.Repeat([]api.Term{good}, 61)
	l := []bad{
		{nil, 0, fault(api.ErrMany, 0)},
		{nil, 5, fault(api.ErrMany, 0)},
		{[]api.Term{}, 1000, fault(api.ErrMany, 0)},
		{[]api.Term{good, term(7, nan)}, 0, fault(api.ErrMany, 0)},
		{[]api.Term{term(0, 1, 1, 1, 1, 1, 1)}, 5, fault(api.ErrMany, 0)},
		{many, 2, fault(api.ErrMany, 0)},
		{many, 3, fault(api.ErrMany, 0)},
		{append([]api.Term{term(9, nan)}, many...), 2, fault(api.ErrMany, 0)},
		{make([]api.Term, 5000), 1, fault(api.ErrMany, 0)},

		{[]api.Term{term(2, 1, 1, 2)}, 2, fault(api.ErrName, 0)},
		{[]api.Term{good, term(-1, 1, 1, 2)}, 2, fault(api.ErrName, 1)},
		{[]api.Term{good, good, term(math.MaxInt, nan)}, 2, fault(api.ErrName, 2)},
		{[]api.Term{term(math.MinInt, 1, 9, 9)}, 2, fault(api.ErrName, 0)},
		{append(slices.Clone(many[:59]), term(4, 1, 1, 2)), 2, fault(api.ErrName, 59)},

		{[]api.Term{term(0, 1)}, 2, fault(api.ErrShape, 0)},
		{[]api.Term{{}}, 1, fault(api.ErrShape, 0)},
		{[]api.Term{good, term(1, 1, 1)}, 2, fault(api.ErrShape, 1)},
		{[]api.Term{good, term(1, 1, 1, 1, 1)}, 2, fault(api.ErrShape, 1)},
		{[]api.Term{term(1, 1, 9)}, 2, fault(api.ErrShape, 0)},
		{[]api.Term{term(1, 1, -1, 5, 7)}, 2, fault(api.ErrShape, 0)},

		{[]api.Term{term(1, 1, 0, 5)}, 2, fault(api.ErrRange, 0)},
		{[]api.Term{term(1, 1, 5, 0)}, 2, fault(api.ErrRange, 0)},
		{[]api.Term{good, term(0, 1, -1, 4)}, 2, fault(api.ErrRange, 1)},
		{[]api.Term{good, good, term(0, 1, 4, math.MinInt)}, 2, fault(api.ErrRange, 2)},
		{[]api.Term{good, good, term(0, 1, math.MaxInt, 4)}, 2, fault(api.ErrRange, 2)},

		// One by one: the first term's, whatever is wrong with others.
		{[]api.Term{good, term(0, 1, 9, 9), term(9, 1, 1, 1)}, 2, fault(api.ErrRange, 1)},
		{[]api.Term{term(0, 1), term(9, 1, 1, 1), term(0, nan, 1, 1)}, 2, fault(api.ErrShape, 0)},
		{[]api.Term{term(2, 1, 1, 1), term(0, 1)}, 2, fault(api.ErrName, 0)},
	}
	for _, x := range []float64{nan, inf, -inf} {
		l = append(l,
			bad{[]api.Term{term(0, x, 1)}, 1, fault(api.ErrNaN, 0)},
			bad{[]api.Term{good, term(0, x, 1, 2), term(2, 1, 1, 2)}, 2, fault(api.ErrNaN, 1)},
			bad{[]api.Term{good, term(0, x)}, 2, fault(api.ErrNaN, 1)}, // told ahead of what the powers are
			bad{[]api.Term{good, term(0, x, 9, 9)}, 2, fault(api.ErrNaN, 1)},
			bad{[]api.Term{good, term(2, x, 9)}, 2, fault(api.ErrName, 1)})
	}
	return l
}

func TestCheck(t *testing.T) {
	for _, w := range wrongs() {
		if err := flow.Check(w.f, w.n); err != w.err {
			t.Errorf("Check of %v, %d: %v, want %v", w.f, w.n, err, w.err)
		}
	}
	for _, n := range []int{-1, math.MinInt, math.MaxInt} {
		if err := flow.Check([]api.Term{term(7, nan)}, n); err != fault(api.ErrMany, 0) {
			t.Errorf("Check of %d unknowns: %v", n, err)
		}
	}
	for n := 1; n <= 4; n++ {
		var f []api.Term
		for i := range 60 {
			pow := slices.Repeat([]int{i % 5}, n)
			pow[i%n] = 4 - i%5
			f = append(f, term(i%n, []float64{0, minus, 1, -most, most, least}[i%6], pow...))
			if err := flow.Check(f, n); err != fine {
				t.Errorf("Check of %v, %d: %v", f, n, err)
			}
		}
	}
	for _, f := range [][]api.Term{nil, {}} {
		for n := 1; n <= 4; n++ {
			if err := flow.Check(f, n); err != fine {
				t.Errorf("Check of no terms, %d: %v", n, err)
			}
		}
	}
}

// refused fails unless both Holds and Step tell that fault, and nothing else.
func refused(t *testing.T, f []api.Term, y []api.Span, h float64, b []api.Span, want api.Fault) {
	t.Helper()
	if ok, err := flow.Holds(f, y, h, b); ok || err != want {
		t.Errorf("Holds of %v %v %g %v: %v %v, want %v", f, y, h, b, ok, err, want)
	}
	if end, box, err := flow.Step(f, y, h); end != nil || box != nil || err != want {
		t.Errorf("Step of %v %v %g: %v %v %v, want %v", f, y, h, end, box, err, want)
	}
}

func TestWrongSystems(t *testing.T) {
	for _, w := range wrongs() {
		y := make([]api.Span, w.n)
		refused(t, w.f, y, 0.5, y, w.err)
		// All else is told behind.
		for _, s := range []api.Span{from(2, 1), at(nan)} {
			refused(t, w.f, slices.Repeat([]api.Span{s}, w.n), nan, nil, w.err)
		}
	}
}

func TestWrongPlaces(t *testing.T) {
	good, two := at(1), []api.Term{term(0, 1, 1, 2), term(1, 1, 0, 0)}
	for _, c := range []struct {
		s    api.Span
		code api.Errno
	}{
		{at(nan), api.ErrNaN},
		{from(0, inf), api.ErrNaN},
		{from(-inf, 0), api.ErrNaN},
		{from(inf, -inf), api.ErrNaN},
		{from(nan, 1), api.ErrNaN},
		{from(2, 1), api.ErrRange},
		{from(0, -least), api.ErrRange},
	} {
		for n, f := range [][]api.Term{nil, two[:1], two, slices.Repeat(two, 30)} {
			if n == 3 {
				n = 60
			}
			for _, y := range [][]api.Span{{c.s, good}, {good, c.s}, {c.s, c.s}} {
				for _, h := range []float64{1, 0, 2, nan} { // what is wrong with the time is told behind
					refused(t, f, y, h, y, fault(c.code, n))
					refused(t, f, y, h, nil, fault(c.code, n))
				}
				if ok, err := flow.Holds(f, spans(good, good), 0.25, y); ok || err != fault(c.code, n) {
					t.Errorf("Holds in %v: %v %v", y, ok, err)
				}
			}
		}
	}
	// The first one's.
	refused(t, two, spans(at(nan), from(2, 1)), 1, nil, fault(api.ErrNaN, 2))
	refused(t, two, spans(from(2, 1), at(nan)), 1, nil, fault(api.ErrRange, 2))
	for _, b := range [][]api.Span{{from(2, 1), at(nan)}, {at(nan), from(2, 1)}} {
		want := fault(api.ErrRange, 2)
		if math.IsNaN(b[0].Lo) {
			want.Code = api.ErrNaN
		}
		if ok, err := flow.Holds(two, spans(good, good), 1, b); ok || err != want {
			t.Errorf("Holds in %v: %v %v", b, ok, err)
		}
	}
}

func TestWrongTimes(t *testing.T) {
	for n, f := range [][]api.Term{nil, {term(0, 1, 1)}, {term(0, 1, 1), term(0, 1, 0)}} {
		for _, h := range []float64{0, minus, -least, -1, above(1), 2, most, -most, inf, -inf, nan} {
			refused(t, f, spans(at(1)), h, spans(at(1)), fault(api.ErrRange, n))
			refused(t, f, spans(at(1)), h, spans(at(nan), at(nan)), fault(api.ErrRange, n)) // ahead of the box
		}
		for _, h := range []float64{least, 0x1p-1022, 0.5, below(1), 1} {
			if _, err := flow.Holds(f, spans(at(0)), h, spans(from(-8, 8))); err != fine {
				t.Errorf("Holds for %g: %v", h, err)
			}
		}
	}
}

func TestWrongBoxes(t *testing.T) {
	f := []api.Term{term(0, 1, 1, 2), term(1, 1, 0, 0), term(1, 1, 1, 1)}
	y := spans(at(1), at(1))
	for _, b := range [][]api.Span{nil, {}, {at(1)}, {at(nan)}, {at(1), at(1), at(1)}, {at(nan), from(2, 1), at(1)}, make([]api.Span, 5000)} {
		if ok, err := flow.Holds(f, y, 0.5, b); ok || err != fault(api.ErrShape, 3) {
			t.Errorf("Holds in %d spans: %v %v", len(b), ok, err)
		}
	}
}
