package eft_test

import (
	"math"
	"math/big"
	"testing"

	"enclosure/eft"
)

func TestSum(t *testing.T) {
	for _, c := range []struct {
		a, b, s, e float64
		ok         bool
	}{
		{0, 0, 0, 0, true},
		{1e16, 1, 1e16, 1, true},
		{1, 1e16, 1e16, 1, true},
		{1e16, 3, 1e16 + 4, -1, true},
		{0.1, 0.2, 0.30000000000000004, -0x1p-55, true},
		{1, -1, 0, 0, true},
		{1, least, 1, least, true},
		{0x1p-1022, -least, 0x1p-1022 - least, 0, true},
		{most, 1, most, 1, true},
		{most, -1, most, -1, true},
		{most, 0x1p970, 0, 0, false},
		{most, 0x1p970 - 0x1p917, most, 0x1p970 - 0x1p917, true}, // half a step of what is greatest, but for a little
		{-most, -0x1p969, -most, -0x1p969, true},
		{most, -most, 0, 0, true},
		{most, most, 0, 0, false},
		{-most, -most, 0, 0, false},
		{inf, 1, 0, 0, false},
		{1, -inf, 0, 0, false},
		{inf, -inf, 0, 0, false},
		{nan, 1, 0, 0, false},
		{1, nan, 0, 0, false},
	} {
		if s, e, ok := eft.Sum(c.a, c.b); s != c.s || e != c.e || ok != c.ok {
			t.Errorf("Sum(%g, %g): %g %g %t, want %g %g %t", c.a, c.b, s, e, ok, c.s, c.e, c.ok)
		}
	}
}

func TestProd(t *testing.T) {
	for _, c := range []struct {
		a, b, p, e float64
		ok         bool
	}{
		{0, 0, 0, 0, true},
		{0, most, 0, 0, true},
		{3, 7, 21, 0, true},
		{1 + 0x1p-30, 1 + 0x1p-30, 1 + 0x1p-29, 0x1p-60, true},
		{0.1, 10, 1, 0x1p-54, true},
		{least, 1, least, 0, true},
		{least, 0.5, 0, 0, false}, // half the least float
		{least, 3, 3 * least, 0, true},
		{least, 1.5, 0, 0, false},
		{least, least, 0, 0, false},
		{0x1p-537, 0x1p-537, least, 0, true},
		{0x1p-537, 0x1p-538, 0, 0, false},
		{1 + 0x1p-52, 0x1p-1022, 0x1p-1022 + least, 0, true},
		{1 + 0x1p-52, 0x1p-1022 + least, 0, 0, false}, // is twice lower than floats are
		{1 + 0x1p-52, (1 + 0x1p-52) * 0x1p-970, (1 + 0x1p-51) * 0x1p-970, least, true},
		{1 + 0x1p-52, (1 + 0x1p-52) * 0x1p-971, 0, 0, false},
		{most, 1, most, 0, true},
		{most, 1 + 0x1p-52, 0, 0, false},
		{1 << 53, most, 0, 0, false},
		{inf, 0, 0, 0, false},
		{inf, 1, 0, 0, false},
		{0, -inf, 0, 0, false},
		{nan, 0, 0, 0, false},
		{0, nan, 0, 0, false},
	} {
		if p, e, ok := eft.Prod(c.a, c.b); p != c.p || e != c.e || ok != c.ok {
			t.Errorf("Prod(%g, %g): %g %g %t, want %g %g %t", c.a, c.b, p, e, ok, c.p, c.e, c.ok)
		}
	}
}

func TestQuo(t *testing.T) {
	for _, c := range []struct {
		a, b, q, r float64
		ok         bool
	}{
		{0, 1, 0, 0, true},
		{6, 3, 2, 0, true},
		{1, 3, 1.0 / 3, 0x1p-54, true},
		{-1, 3, -1.0 / 3, -0x1p-54, true},
		{most, most, 1, 0, true},
		{most, 0.5, 0, 0, false},
		{1, 0, 0, 0, false},
		{0, 0, 0, 0, false},
		{most, least, 0, 0, false},
		{least, least, 1, 0, true},
		{least, 3, 0, least, true}, // all is left
		{least, most, 0, least, true},
		{2 * least, 3, least, -least, true},
		{least, 1.5, 0, 0, false}, // a half is left, which is no float
		{1, most, 0x1p-1024, 0x1p-53, true},
		{0x1p-1022, 3, 0x1.5555555555554p-1024, least, true},
		{0x1p-1000, 3, 0x1.5555555555555p-1002, 0x1p-1054, true},
		{0x1p-1000, 1 + 0x1p-52, 0, 0, false},
		{1, inf, 0, 0, false}, // 0, and 1 is left; but what it is divided by isn't finite
		{0, inf, 0, 0, false},
		{inf, 1, 0, 0, false},
		{inf, inf, 0, 0, false},
		{nan, 1, 0, 0, false},
		{1, nan, 0, 0, false},
	} {
		if q, r, ok := eft.Quo(c.a, c.b); q != c.q || r != c.r || ok != c.ok {
			t.Errorf("Quo(%g, %g): %g %g %t, want %g %g %t", c.a, c.b, q, r, ok, c.q, c.r, c.ok)
		}
	}
}

func TestRoot(t *testing.T) {
	for _, c := range []struct {
		a, s, r float64
		ok      bool
	}{
		{0, 0, 0, true},
		{math.Copysign(0, -1), 0, 0, true},
		{1, 1, 0, true},
		{4, 2, 0, true},
		{2, math.Sqrt2, -0x1.3b3efbf5e2229p-52, true},
		{0.25, 0.5, 0, true},
		{least, 0x1p-537, 0, true},
		{4 * least, 0x1p-536, 0, true},
		{2 * least, 0, 0, false}, // the square of the root ends far below the floats
		{most, 0x1.fffffffffffffp511, 0x1.fffffffffffffp970, true},
		{-1, 0, 0, false},
		{-least, 0, 0, false},
		{inf, 0, 0, false},
		{-inf, 0, 0, false},
		{nan, 0, 0, false},
	} {
		if s, r, ok := eft.Root(c.a); s != c.s || r != c.r || ok != c.ok {
			t.Errorf("Root(%g): %g %g %t, want %g %g %t", c.a, s, r, ok, c.s, c.r, c.ok)
		}
	}
}

func TestLostIsJust(t *testing.T) {
	for _, c := range pairs() {
		a, b := c[0], c[1]
		s, e, ok := eft.Sum(a, b)
		lost(t, "Sum", c[:], s, e, ok, a+b, func() *big.Int {
			sum := new(big.Int).Add(squares(a), squares(b))
			return sum.Sub(sum, squares(a+b))
		})
		p, e, ok := eft.Prod(a, b)
		lost(t, "Prod", c[:], p, e, ok, a*b, func() *big.Int {
			product := new(big.Int).Mul(units(a), units(b))
			return product.Sub(product, squares(a*b))
		})
		q, r, ok := eft.Quo(a, b)
		lost(t, "Quo", c[:], q, r, ok, a/b, func() *big.Int {
			product := new(big.Int).Mul(units(a/b), units(b))
			return product.Sub(squares(a), product)
		})
	}
}

func TestSumThatIsFiniteIsOk(t *testing.T) {
	for _, c := range pairs() {
		s, e, ok := eft.Sum(c[0], c[1])
		if ok != finite(c[0]+c[1]) || s+e != s {
			t.Errorf("Sum(%g, %g): %g %g %t", c[0], c[1], s, e, ok)
		}
	}
}

func TestRootIsTheNearest(t *testing.T) {
	next := stream()
	l := corners()
	for i := range 40000 {
		x := math.Abs(some(next))
		if i%4 == 0 {
			x = with(x, near(next, 48, 48)) // where squares end about the lowest digit
		}
		if i%4 == 1 { // and squares, and what is next to them
			y := float64(next() >> (38 + i%20))
			x = math.Nextafter(y*y, float64(i%3)*y*y)
		}
		l = append(l, x)
	}
	for _, a := range l {
		s, r, ok := eft.Root(a)
		root := nan
		if a >= 0 {
			root = math.Sqrt(a)
		}
		lost(t, "Root", []float64{a}, s, r, ok, root, func() *big.Int {
			return new(big.Int).Sub(squares(a), new(big.Int).Mul(units(root), units(root)))
		})
		if ok && !isRoot(a, s) {
			t.Errorf("Root(%g): %g isn't the nearest one", a, s)
		}
	}
}

// isRoot: lies the root of a between the middles from s to its neighbours?
func isRoot(a, s float64) bool {
	if a == 0 {
		return s == 0
	}
	four := new(big.Int).Lsh(squares(a), 2)
	low := new(big.Int).Add(units(s), units(math.Nextafter(s, 0)))
	high := new(big.Int).Add(units(s), units(math.Nextafter(s, inf)))
	return low.Mul(low, low).Cmp(four) < 0 && four.Cmp(high.Mul(high, high)) < 0
}
