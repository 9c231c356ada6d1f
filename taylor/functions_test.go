package taylor_test

import (
	"math/big"
	"testing"

	"enclosure/api"
	"enclosure/taylor"
)

// functions of m, as polynomials: that of m, and m's rest times what isn't farther than
// 1 from 0 between -1 and 1.
func functions(m taylor.Model) [][]*big.Rat {
	var l [][]*big.Rat
	for _, way := range [][]*big.Rat{
		{},
		{big.NewRat(1, 1)},
		{big.NewRat(-1, 1)},
		{new(big.Rat), big.NewRat(-1, 1)},
		{big.NewRat(-1, 1), new(big.Rat), big.NewRat(2, 1)},
		{new(big.Rat), big.NewRat(3, 1), new(big.Rat), big.NewRat(-4, 1)},
	} {
		var rest []*big.Rat
		for _, v := range way {
			rest = append(rest, times(v, rat(m.Rest)))
		}
		l = append(l, added(rats(m.C), rest))
	}
	return l
}

// has fails unless the polynomial f is a function of m, as far as some points show it,
// and its values lie in Range and At.
func has(t *testing.T, what string, m taylor.Model, f []*big.Rat) {
	t.Helper()
	whole, none := taylor.Range(m)
	for _, x := range []float64{-1, -0.7, minus, 0x1p-40, 0.25, 1} {
		v := value(f, rat(x))
		if off := abs(less(v, value(rats(m.C), rat(x)))); off.Cmp(rat(m.Rest)) > 0 {
			t.Errorf("%s: %v hasn't %v: at %g", what, m, f, x)
		}
		if none == fine && !lies(v, whole) {
			t.Errorf("%s: Range of %v hasn't %v: at %g", what, m, f, x)
		}
		if s, err := taylor.At(m, x); err == fine && !lies(v, s) {
			t.Errorf("%s: At of %v hasn't %v: at %g", what, m, f, x)
		}
	}
}

func lies(v *big.Rat, s api.Span) bool { return v.Cmp(rat(s.Lo)) >= 0 && v.Cmp(rat(s.Hi)) <= 0 }

func TestFunctionsLieInTheirModels(t *testing.T) {
	next := stream(7)
	l := models(8, 1)
	told := 0
	for range 40 {
		a, b := l[next()%uint64(len(l))], l[next()%uint64(len(l))]
		degree := int(next() % (api.MaxDegree + 1))
		sum, noSum := taylor.Add(a, b)
		product, noProduct := taylor.Mul(a, b, degree)
		under, noUnder := taylor.Sum(a)
		for _, f := range functions(a) {
			has(t, "itself", a, f)
			if noUnder == fine {
				has(t, "Sum", under, summed(f))
			}
			for _, g := range functions(b) {
				if noSum == fine {
					has(t, "Add", sum, added(f, g))
				}
				if noProduct == fine {
					has(t, "Mul", product, multiplied(f, g))
					told++
				}
			}
		}
	}
	if told == 0 {
		t.Error("no product is told")
	}
}

// TestLongWay: what is under e, of which each term comes from the one ahead of it, once
// more and once more, with what is rounded on the way.
func TestLongWay(t *testing.T) {
	e, fault := model(0, 1), fine
	for range 12 {
		e, fault = taylor.Sum(e) // t^n / n!, and what lies under it
		if fault != fine {
			t.Fatal(fault)
		}
		e, fault = taylor.Add(e, model(0, 1))
		if fault != fine {
			t.Fatal(fault)
		}
	}
	// The polynomial of e to the power of t up to t^12 is told, but for what is rounded.
	f, term := []*big.Rat{}, big.NewRat(1, 1)
	for i := range 13 {
		f = append(f, term)
		term = times(term, big.NewRat(1, int64(i+1)))
	}
	has(t, "e", e, f)
	if e.Rest > 1e-15 {
		t.Errorf("a rest of %g", e.Rest)
	}
	square, fault := taylor.Mul(e, e, 12)
	if fault != fine {
		t.Fatal(fault)
	}
	has(t, "a square", square, multiplied(f, f))
}
