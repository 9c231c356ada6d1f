package flow_test

import (
	"math"
	"math/big"
	"testing"

	"enclosure/api"
	"enclosure/flow"
)

// within fails unless places that lie from lo to hi do so in s.
func within(t *testing.T, what string, of any, lo, hi *big.Rat, s api.Span) {
	t.Helper()
	if lo.Cmp(rat(s.Lo)) < 0 || hi.Cmp(rat(s.Hi)) > 0 {
		t.Errorf("%s of %v: %v to %v don't lie in %v", what, of, lo.FloatString(20), hi.FloatString(20), s)
	}
}

// parts of the time h, and it itself.
func parts(h float64) []float64 { return []float64{h * 0x1p-30, h / 4, h / 2, h * 0.9, h} }

// starts are both ends of s, and some between.
func starts(s api.Span) []float64 {
	l := []float64{s.Lo, s.Hi}
	for _, share := range []float64{0.25, 0.5, 0.8} {
		l = append(l, min(s.Hi, max(s.Lo, s.Lo+share*(s.Hi-s.Lo))))
	}
	return l
}

// TestSquares: what begins at y and grows by its square is y over 1 - y time.
func TestSquares(t *testing.T) {
	for _, y := range []api.Span{at(1), at(-1), at(0), from(1, 1.5), from(-2, 2), from(-2, -1.9), from(0, least), at(0.1), at(1e-300)} {
		for _, h := range []float64{0x1p-6, 0.1, 0.01, 0x1p-40, least, 1e-300} {
			end, box := stepped(t, []api.Term{term(0, 1, 2)}, spans(y), h)
			for _, x := range starts(y) {
				for _, time := range parts(h) {
					v := over(rat(x), less(big.NewRat(1, 1), times(rat(x), rat(time))))
					within(t, "the box", []any{y, h}, v, v, box[0])
					if time == h {
						within(t, "the end", []any{y, h}, v, v, end[0])
					}
				}
			}
		}
	}
}

// TestPowersOfE: what grows as much as K times what it is, is e to the power of K time,
// times where it began.
func TestPowersOfE(t *testing.T) {
	for _, k := range []float64{1, -1, 0.3, -2, 2, 0x1p-30, least} {
		for _, y := range []api.Span{at(1), at(-3), from(-1, 2), from(0.5, 0.75), at(1e300), at(least), from(-0x1p-1060, 1)} {
			for _, h := range []float64{0x1p-6, 0.25, 0.4, 0x1p-50, least} {
				end, box := stepped(t, []api.Term{term(0, k, 1)}, spans(y), h)
				for _, x := range starts(y) {
					for _, time := range parts(h) {
						lo, hi := growing(times(rat(k), rat(time)))
						lo, hi = times(lo, rat(x)), times(hi, rat(x))
						if x < 0 {
							lo, hi = hi, lo
						}
						within(t, "the box", []any{k, y, h}, lo, hi, box[0])
						if time == h {
							within(t, "the end", []any{k, y, h}, lo, hi, end[0])
						}
					}
				}
			}
		}
	}
}

// TestClocks: of unknowns that grow by others, which begin at 0 and grow by 1 all the
// time, it is known just where they are.
func TestClocks(t *testing.T) {
	for p := range 5 {
		f := []api.Term{term(1, 1, 0, 0), term(0, 3, 0, p), term(0, -1, 0, 0)}
		for _, h := range []float64{1, 0.5, 0.1, 0x1p-6, least} {
			for _, y := range []float64{0, 1, -0.1, 1e10} {
				end, box := stepped(t, f, spans(at(y), at(0)), h)
				for _, time := range parts(h) {
					v := over(times(big.NewRat(3, 1), power(rat(time), p+1)), big.NewRat(int64(p+1), 1))
					v = plus(rat(y), less(v, rat(time)))
					within(t, "the box", []any{p, y, h}, v, v, box[0])
					within(t, "the clock's box", h, rat(time), rat(time), box[1])
					if time == h {
						within(t, "the end", []any{p, y, h}, v, v, end[0])
						if end[1] != at(h) {
							t.Errorf("the clock, %g: %v", h, end[1])
						}
						if off := end[0].Hi - end[0].Lo; off > 1e-15*max(1, math.Abs(y)) {
							t.Errorf("the power %d of the clock, from %g, %g: %v, too wide", p, y, h, end[0])
						}
					}
				}
			}
		}
	}
}

// TestTruth holds Step against rows of many long floats.
func TestTruth(t *testing.T) {
	next := stream(2)
	told := 0
	for told < 80 {
		n := 1 + int(next()%4)
		f := system(next, n, int(next()%6), []int{2, 3, 6}[next()%3], upTo(next, 0.5))
		y := between(next, n, upTo(next, 1))
		h := []float64{0x1p-6, 0x1p-7, 0.01, 0x1p-20}[next()%4]
		if _, _, g := flow.Step(f, y, h); g != fine {
			continue // which may be, of so many terms
		}
		told++
		end, box := stepped(t, f, y, h)
		for range 3 {
			var x []float64
			for _, s := range y {
				l := starts(s)
				x = append(x, l[next()%uint64(len(l))])
			}
			for _, time := range []float64{h / 3, h} {
				for i, v := range after(f, x, time) {
					if !nearly(v, box[i]) || time == h && !nearly(v, end[i]) {
						t.Fatalf("%v from %v, %g: %s at %g isn't told: %v %v", f, x, h, v.Text('g', 20), time, end[i], box[i])
					}
				}
			}
		}
	}
}

// TestAlwaysFound: of systems of which ErrNone may not be told, something is.
func TestAlwaysFound(t *testing.T) {
	next := stream(3)
	value := upTo(next, 2)
	for range 2000 {
		n := 1 + int(next()%4)
		f := system(next, n, int(next()%3), 2, value)
		h := min(0x1p-6, above(math.Abs(value())))
		if next()%2 == 0 {
			h = 0x1p-6
		}
		stepped(t, f, between(next, n, value), h)
	}
	// The corners.
	for _, a := range []float64{2, -2} {
		for _, b := range []float64{2, -2} {
			for _, f := range [][]api.Term{
				{term(0, a, 2, 0), term(0, b, 2, 0)},
				{term(0, a, 2, 0), term(0, b, 0, 2)},
				{term(0, a, 1, 1), term(0, b, 1, 1)},
				{term(0, a, 1, 1), term(1, b, 1, 1)},
				{term(0, a, 0, 2), term(1, b, 2, 0)},
				{term(0, a, 2, 0), term(0, b, 1, 0)},
				{term(0, a, 0, 1), term(1, b, 1, 0)},
				{term(0, a, 0, 0), term(1, b, 2, 0)},
			} {
				for _, y := range [][]api.Span{
					{at(2), at(2)}, {at(-2), at(2)}, {at(2), at(-2)}, {at(-2), at(-2)},
					{from(-2, 2), from(-2, 2)}, {at(0), from(-2, 2)}, {at(0), at(0)}, {at(2), at(least)},
				} {
					for _, h := range []float64{0x1p-6, 0x1p-7, 0x1p-1022, least} {
						stepped(t, f, y, h)
					}
				}
			}
		}
	}
}

// TestSharp: the ends of what begins at a place are near to each other, and boxes aren't
// greater than they must be.
func TestSharp(t *testing.T) {
	square := []api.Term{term(0, 1, 2)}
	wheel := []api.Term{term(0, 1, 0, 1), term(1, -1, 1, 0)}
	for _, c := range []struct {
		f        []api.Term
		y        []api.Span
		h        float64
		end, box float64 // how wide they are, at most
	}{
		{square, spans(at(1)), 0x1p-6, 4e-16, 0.01614},
		{square, spans(at(1)), 0.25, 5e-4, 1}, // the only box of which Holds says true ends at 2
		{square, spans(at(1)), 0.2499, 5e-4, 0.97},
		{square, spans(from(0, 1)), 0.25, 1.34, 2}, // likewise
		{[]api.Term{term(0, -1, 2)}, spans(from(-1, 0)), 0.25, 1.34, 2},
		{square, spans(from(1, 1.5)), 0x1p-6, 0.5202, 0.537},
		{wheel, spans(at(1), at(0)), 0x1p-6, 4e-16, 0.02},
		{wheel, spans(at(1), at(0)), 0.5, 1e-12, 0.5},
		{[]api.Term{term(0, 1, 1)}, spans(at(1)), 0.5, 1e-12, 1},
		{[]api.Term{term(0, -1, 1)}, spans(at(1)), 0.5, 1e-12, 0.5},
		{nil, spans(at(0.1), from(1, 2)), 1, 1, 1},
		{[]api.Term{term(0, 1, 0)}, spans(at(1)), 1, 0, 1},
		{[]api.Term{term(0, 1, 0), term(0, -1, 1)}, spans(at(1)), 0.25, 0.5, 0.5},
	} {
		end, box := stepped(t, c.f, c.y, c.h)
		for i := range end {
			if end[i].Hi-end[i].Lo > c.end || box[i].Hi-box[i].Lo > c.box {
				t.Errorf("Step of %v %v %g: %v in %v", c.f, c.y, c.h, end, box)
			}
		}
	}
}

// TestManySteps: the example of the document, in sixteen steps.
func TestManySteps(t *testing.T) {
	y := spans(at(1))
	for range 16 {
		y, _ = stepped(t, []api.Term{term(0, 1, 2)}, y, 0x1p-6)
	}
	v := big.NewRat(4, 3)
	within(t, "the end", "sixteen steps", v, v, y[0])
	if y[0].Hi-y[0].Lo > 1e-14 {
		t.Errorf("after sixteen steps: %v", y)
	}
	end, _ := stepped(t, []api.Term{term(0, 1, 2)}, spans(at(1)), 0.25)
	within(t, "the end", "one step", v, v, end[0])
}

// TestNothingFound: where there is no box of which Holds says true, or where it would be
// beyond the greatest float.
func TestNothingFound(t *testing.T) {
	third := most / 3
	for _, c := range []struct {
		f    []api.Term
		y    []api.Span
		h    float64
		code api.Errno
	}{
		{[]api.Term{term(0, 1, 4)}, spans(at(4)), 1, api.ErrNone},
		{[]api.Term{term(0, 1, 2)}, spans(at(1)), above(0.25), api.ErrNone},
		{[]api.Term{term(0, 1, 2)}, spans(at(above(1))), 0.25, api.ErrNone},
		{[]api.Term{term(0, 1, 1)}, spans(at(1)), 1, api.ErrNone},
		{[]api.Term{term(0, 1, 1)}, spans(at(most)), 1, api.ErrNone},
		{[]api.Term{term(0, -1, 1)}, spans(from(-1, 1)), 1, api.ErrNone},
		{[]api.Term{term(0, 1, 2)}, spans(at(1e300)), 1, api.ErrNone},
		{[]api.Term{term(0, most, 4, 4, 4, 4)}, spans(at(most), at(most), at(most), at(most)), 1, api.ErrNone},
		{[]api.Term{term(1, 1, 0, 2), term(0, most, 0, 0)}, spans(at(most), at(1)), 1, api.ErrNone},

		{[]api.Term{term(0, most, 0)}, spans(at(most)), 1, api.ErrRange},
		{[]api.Term{term(0, -most, 0)}, spans(at(-most)), 1, api.ErrRange},
		{[]api.Term{term(0, most, 0)}, spans(at(most)), 0x1p-40, api.ErrRange},
		{[]api.Term{term(0, 0x1p970, 0)}, spans(at(most)), least, api.ErrRange}, // and be it ever so little
		{[]api.Term{term(0, 1, 1)}, spans(at(most)), 0.5, api.ErrRange},
		{[]api.Term{term(0, -1, 1)}, spans(from(-most, most)), 0x1p-6, api.ErrRange},
		{[]api.Term{term(1, 1, 2, 0)}, spans(at(1e200), at(0)), 1, api.ErrRange},
		{[]api.Term{term(1, 1, 4, 0)}, spans(at(1e300), at(0)), 1, api.ErrRange},
		{[]api.Term{term(0, third, 0), term(0, third, 0), term(0, third, 0), term(0, third, 0)}, spans(at(0)), 1, api.ErrRange},
	} {
		end, box, g := flow.Step(c.f, c.y, c.h)
		if end != nil || box != nil || g != fault(c.code, len(c.f)) {
			t.Errorf("Step of %v %v %g: %v %v %v, want %v", c.f, c.y, c.h, end, box, g, c.code)
		}
	}
}

// TestGreatest: what may stand just at the greatest float.
func TestGreatest(t *testing.T) {
	for _, c := range []struct {
		f    []api.Term
		y    []api.Span
		h    float64
		want api.Span // the end of the first unknown
	}{
		{nil, spans(from(-most, most)), 1, from(-most, most)},
		{[]api.Term{term(0, most, 0)}, spans(at(0)), 1, at(most)},
		{[]api.Term{term(0, -most, 0)}, spans(at(most)), 1, at(0)},
		{[]api.Term{term(0, most, 0), term(0, most, 0)}, spans(at(-most)), 1, at(most)},
		{[]api.Term{term(0, most, 0), term(0, -most, 0)}, spans(at(most)), 1, at(most)},
		{[]api.Term{term(0, 0x1p1023, 0)}, spans(at(0)), 1, at(0x1p1023)},
		{[]api.Term{term(0, 0x1p1023, 0)}, spans(at(0x1p1022)), 0.5, at(0x1p1023)},
		{[]api.Term{term(0, 1, 2)}, spans(at(0)), 1, at(0)},
	} {
		if end, _ := stepped(t, c.f, c.y, c.h); end[0] != c.want {
			t.Errorf("Step of %v %v %g: %v, want %v", c.f, c.y, c.h, end[0], c.want)
		}
	}
}

// TestManyTerms: as much of all as there may be.
func TestManyTerms(t *testing.T) {
	next := stream(4)
	for _, size := range []float64{0x1p-10, 0x1p-300, least} {
		var f []api.Term
		for len(f) < api.MaxNodes {
			f = append(f, term(int(next()%4), upTo(next, size)(), int(next()%5), int(next()%5), int(next()%5), 4))
		}
		stepped(t, f, between(next, 4, upTo(next, 1)), 0x1p-6)
	}
}
