package flow_test

import (
	"math/big"
	"testing"

	"enclosure/api"
	"enclosure/flow"
)

// reach is all that a term comes to in b, by the chapter's words: that is least, and
// greatest, where each unknown is at an end of its span, or 0.
func reach(f api.Term, b []api.Span) (lo, hi *big.Rat) {
	l := []*big.Rat{rat(f.K)}
	for i, s := range b {
		places := []float64{s.Lo, s.Hi}
		if s.Lo < 0 && s.Hi > 0 {
			places = append(places, 0)
		}
		var all []*big.Rat
		for _, v := range l {
			for _, x := range places {
				all = append(all, times(v, power(rat(x), f.Pow[i])))
			}
		}
		l = all
	}
	lo, hi = l[0], l[0]
	for _, v := range l {
		if v.Cmp(lo) < 0 {
			lo = v
		}
		if v.Cmp(hi) > 0 {
			hi = v
		}
	}
	return lo, hi
}

// sides are the ends of what each unknown reaches in b.
func sides(f []api.Term, y []api.Span, h float64, b []api.Span) [][2]*big.Rat {
	l := make([][2]*big.Rat, len(y))
	for i, s := range y {
		lo, hi := new(big.Rat), new(big.Rat)
		for _, t := range f {
			if t.Out == i {
				down, up := reach(t, b)
				lo, hi = plus(lo, down), plus(hi, up)
			}
		}
		l[i] = [2]*big.Rat{rat(s.Lo), rat(s.Hi)}
		if lo.Sign() < 0 {
			l[i][0] = plus(l[i][0], times(rat(h), lo))
		}
		if hi.Sign() > 0 {
			l[i][1] = plus(l[i][1], times(rat(h), hi))
		}
	}
	return l
}

// holds is Holds by the chapter's words.
func holds(f []api.Term, y []api.Span, h float64, b []api.Span) bool {
	for i, s := range sides(f, y, h, b) {
		if s[0].Cmp(rat(b[i].Lo)) < 0 || s[1].Cmp(rat(b[i].Hi)) > 0 {
			return false
		}
	}
	return true
}

func TestHolds(t *testing.T) {
	square, grows, falls := []api.Term{term(0, 1, 2)}, []api.Term{term(0, 1, 0)}, []api.Term{term(0, -1, 0)}
	tiny := []api.Term{term(0, 0x1p-600, 0)}
	wheel := []api.Term{term(0, 1, 0, 1), term(1, -1, 1, 0)}
	for _, c := range []struct {
		f    []api.Term
		y    []api.Span
		h    float64
		b    []api.Span
		want bool
	}{
		{square, spans(at(1)), 0.25, spans(from(0, 2)), true}, // just so: 1 + 4 / 4
		{square, spans(at(1)), 0.25, spans(from(1, 2)), true},
		{square, spans(at(1)), 0.25, spans(from(1, below(2))), false},
		{square, spans(at(1)), 0.25, spans(from(1, above(2))), false}, // it grows faster there
		{square, spans(at(1)), above(0.25), spans(from(0, 2)), false},
		{square, spans(at(1)), 0.5, spans(from(0, 2)), false},
		{square, spans(at(1)), 0.25, spans(from(above(1), 2)), false},
		{square, spans(at(-1)), 1, spans(from(-1, 0)), true},
		{square, spans(at(-1)), 1, spans(from(-1, 1)), true}, // a square is nowhere below 0
		{square, spans(at(-1)), 1, spans(from(-1, -least)), false},
		{[]api.Term{term(0, 1, 3)}, spans(at(-0.5)), 1, spans(from(-1, 1)), false}, // but this is
		{grows, spans(at(0)), 0.1, spans(from(0, 0.1)), true},
		{grows, spans(at(0)), 0.1, spans(from(0, below(0.1))), false},
		{grows, spans(at(0)), 0.1, spans(from(least, 0.1)), false},
		{falls, spans(at(0)), 0.1, spans(from(-0.1, 0)), true},
		{falls, spans(at(0)), 0.1, spans(from(above(-0.1), 0)), false},
		{tiny, spans(at(1)), 1, spans(at(1)), false}, // nothing is rounded
		{tiny, spans(at(1)), 1, spans(from(1, above(1))), true},
		{tiny, spans(at(1)), least, spans(at(1)), false},
		{tiny, spans(from(0, below(1))), 1, spans(from(minus, 1)), true},
		{append(tiny, tiny[0], term(0, -0x1p-599, 0)), spans(at(1)), 1, spans(at(1)), true}, // all together nothing
		{[]api.Term{term(0, 1, 1), term(0, -1, 1)}, spans(at(1)), 1, spans(at(1)), true},
		{[]api.Term{term(0, 1, 1), term(0, -1, 1)}, spans(from(1, 2)), 1, spans(from(1, 2)), false}, // each by itself
		{nil, spans(at(1)), 1, spans(at(1)), true},
		{nil, spans(at(1)), 1, spans(at(2)), false},
		{nil, spans(from(0, 3)), 1, spans(from(0, 2)), false},
		{nil, spans(from(0, 3)), 1, spans(from(1, 3)), false},
		{nil, spans(at(most), at(-most)), 1, spans(at(most), at(-most)), true},
		{[]api.Term{term(0, 0, 4)}, spans(at(most)), 1, spans(at(most)), true},
		{[]api.Term{term(0, most, 0)}, spans(at(-most)), 1, spans(from(-most, 0)), true},
		{[]api.Term{term(0, most, 0)}, spans(at(least)), 1, spans(from(0, most)), false}, // beyond what floats reach
		{[]api.Term{term(0, most, 4)}, spans(at(0)), 1, spans(at(0)), true},
		{[]api.Term{term(0, most, 4)}, spans(at(most)), 1, spans(from(0, most)), false},
		{[]api.Term{term(0, most, 4, 4), term(0, -most, 4, 4)}, spans(at(most), at(most)), 1, spans(at(most), at(most)), true},
		{wheel, spans(at(1), at(0)), 0.5, spans(from(0.5, 1), from(-0.5, 0)), true},
		{wheel, spans(at(1), at(0)), 0.5, spans(from(0.75, 1), from(-0.5, 0)), true},
		{wheel, spans(at(1), at(0)), 0.5, spans(from(above(0.75), 1), from(-0.5, 0)), false},
		{wheel, spans(at(1), at(0)), 0.5, spans(from(0.75, 1), from(above(-0.5), 0)), false},
		{wheel, spans(at(1), from(0, least)), 0.5, spans(from(0.5, 1), from(-0.5, 0)), false},
		// Each unknown with its own powers, of all unknowns.
		{[]api.Term{term(1, 2, 1, 0, 3, 4)}, spans(at(3), at(2), at(0.5), at(0.25)), 1, spans(at(3), from(2, 2.0029296875), at(0.5), at(0.25)), true},
		{[]api.Term{term(1, 2, 1, 0, 3, 4)}, spans(at(3), at(2), at(0.5), at(0.25)), 1, spans(at(3), from(2, below(2.0029296875)), at(0.5), at(0.25)), false},
		{[]api.Term{term(3, 8, 1, 0, 2, 1)}, spans(at(2), at(3), at(0.5), at(1)), 0.125, spans(at(2), at(3), at(0.5), from(1, 2)), true},
		{[]api.Term{term(3, 8, 1, 0, 2, 1)}, spans(at(2), at(3), at(0.5), at(1)), 0.125, spans(at(2), at(3), at(0.5), from(1, below(2))), false},
	} {
		ok, err := flow.Holds(c.f, c.y, c.h, c.b)
		if ok != c.want || err != fine {
			t.Errorf("Holds of %v %v %g %v: %v %v, want %v", c.f, c.y, c.h, c.b, ok, err, c.want)
		}
		if want := holds(c.f, c.y, c.h, c.b); want != c.want {
			t.Errorf("by the chapter's words %v %v %g %v: %v", c.f, c.y, c.h, c.b, want)
		}
	}
}

// rims are boxes about the least one in which lies what is reached in b, an end of one
// of them moved by a float.
func rims(f []api.Term, y []api.Span, h float64, b []api.Span) [][]api.Span {
	var l [][]api.Span
	for i, s := range sides(f, y, h, b) {
		lo, _ := s[0].Float64()
		hi, _ := s[1].Float64()
		for _, lo := range []float64{below(lo), lo, above(lo)} {
			for _, hi := range []float64{below(hi), hi, above(hi)} {
				if !(lo <= hi) || lo < -most || hi > most {
					continue
				}
				rim := append([]api.Span{}, b...)
				rim[i] = from(lo, hi)
				l = append(l, rim)
			}
		}
	}
	return l
}

// TestHoldsAsSaid holds Holds against the chapter's words.
func TestHoldsAsSaid(t *testing.T) {
	next := stream(1)
	count := map[bool]int{}
	for round := range 1500 {
		n := 1 + int(next()%4)
		size := []float64{2, 2, 2, 1e3, most}[next()%5]
		value := upTo(next, size)
		f := system(next, n, int(next()%5), []int{2, 4, 16}[next()%3], upTo(next, 2))
		y, h := between(next, n, value), min(1, above(float64(next()>>11)*0x1p-53))
		b := between(next, n, value)
		if _, box, g := flow.Step(f, y, h); g == fine {
			b = box
		}
		boxes := [][]api.Span{b}
		if round%4 == 0 {
			boxes = append(boxes, rims(f, y, h, b)...)
		}
		for _, b := range boxes {
			want := holds(f, y, h, b)
			if ok, err := flow.Holds(f, y, h, b); ok != want || err != fine {
				t.Fatalf("Holds of %v %v %g %v: %v %v, want %v", f, y, h, b, ok, err, want)
			}
			count[want]++
		}
	}
	if count[true] < 250 || count[false] < 250 {
		t.Errorf("so often: %v", count)
	}
}
