package eft_test

import (
	"math"
	"math/big"
	"testing"

	"enclosure/eft"
)

func TestFused(t *testing.T) {
	for _, c := range []struct{ a, b, c, want float64 }{
		{2, 3, 4, 10},
		{2, 3, -6, 0},
		{0, 0, 0, 0},
		{1 + 0x1p-30, 1 + 0x1p-30, -1 - 0x1p-29, 0x1p-60},
		{0.1, 10, -1, 0x1p-54},
		// Halves, and what is beside them by less than two roundings would see.
		{0x1p-53, 1, 1, 1},
		{0x1p-53, 1, 1 + 0x1p-52, 1 + 0x1p-51},
		{0x1p-53 + 0x1p-105, 1, 1, 1 + 0x1p-52},
		{0x1p-53, 1 + 0x1p-52, 1, 1 + 0x1p-52},
		{0x1p-53, 1 - 0x1p-53, 1 + 0x1p-52, 1 + 0x1p-52},
		{-0x1p-54, 1 + 0x1p-52, 1, 1 - 0x1p-53},
		{least, least, 1, 1},
		{-least, least, 1, 1},
		{1 + 0x1p-52, 1 + 0x1p-52, least, 1 + 0x1p-51},
		{0x1p-26 + 0x1p-52, 0x1p-27, 1, 1 + 0x1p-52},
		// What is too great on the way, and isn't at last; and what is at last.
		{most, 2, -most, most},
		{most, most, -most, inf},
		{-most, most, most, -inf},
		{most, 1, 0x1p969, most},
		{most, 1, 0x1p970, inf},
		{most, 1, 0x1p970 - 0x1p917, most},
		{0x1p1023, 2, -0x1p970, inf}, // the middle is infinite
		{0x1p512, 0x1p512, -0x1p971, most},
		// What has no leading one.
		{least, 0.5, 0, 0},
		{least, 0.5, least, 2 * least},
		{least, 0.5, 2 * least, 2 * least},
		{least, 1.5, 0, 2 * least},
		{least, 0.75, 0, least},
		{0x1p-537, 0x1p-538, least, 2 * least},
		{0x1p-600, 0x1p-600, least, least},
		{0x1p-600, -0x1p-600, 0x1p-1022, 0x1p-1022},
		{0x1p-537, -0x1p-538, 0x1p-1022, 0x1p-1022},
		{0x1p-537, -(0x1p-538 + 0x1p-580), 0x1p-1022, 0x1p-1022 - least},
		{0x1p-600, 0x1p-600, 0, 0},
		// What isn't finite.
		{inf, 1, 1, inf},
		{1, -inf, 1, -inf},
		{-inf, -1, 1, inf},
		{inf, inf, most, inf},
		{inf, 1, -inf, nan},
		{inf, -1, inf, nan},
		{inf, -1, -inf, -inf},
		{inf, 0, 1, nan},
		{0, inf, 1, nan},
		{0, -inf, inf, nan},
		{0, inf, nan, nan},
		{1, 1, inf, inf},
		{most, most, -inf, -inf}, // what would be too great is no reason
		{most, -most, inf, inf},
		{0, 0, -inf, -inf},
		{nan, 0, 0, nan},
		{0, nan, 0, nan},
		{0, 0, nan, nan},
		{inf, nan, inf, nan},
	} {
		if got := eft.Fused(c.a, c.b, c.c); !same(got, c.want) {
			t.Errorf("Fused(%g, %g, %g): %g, want %g", c.a, c.b, c.c, got, c.want)
		}
	}
}

// fused is a b + c by the words of IEEE 754 and the library's long numbers.
func fused(a, b, c float64) float64 {
	switch {
	case finite(a) && finite(b) && finite(c):
		n := new(big.Int).Mul(units(a), units(b))
		y, _ := float(n.Add(n, squares(c)))
		return y
	case finite(a) && finite(b):
		return c
	}
	return a*b + c // an infinite product, or none: nothing is rounded
}

// thirds: what may stand beside a product: anything, and what lies so that half
// of the last digit, or all but the last one, is all that is told.
func thirds(next func() uint64, p float64) []float64 {
	l := []float64{0, p, -p, 1, least, -least, most, inf, nan, some(next)}
	if !finite(p) {
		return append(l, -most)
	}
	ulp := math.Nextafter(math.Abs(p), inf) - math.Abs(p)
	l = append(l, -math.Nextafter(p, 0), ulp, ulp/2, -ulp/4, with(some(next), near(next, exponent(p), 56)))
	// Of one of these p is half the last digit, or a quarter.
	for _, up := range []int{52, 53, 54, 55, 106, 107, 108} {
		l = append(l, with(some(next), exponent(p)+up), with(1, exponent(p)+up), with(-1-0x1p-52, exponent(p)+up))
	}
	return l
}

func TestFusedIsRoundedOnce(t *testing.T) {
	next := stream()
	for i, c := range pairs() {
		if i%2 == 1 {
			continue
		}
		for _, third := range thirds(next, c[0]*c[1]) {
			if got, want := eft.Fused(c[0], c[1], third), fused(c[0], c[1], third); !same(got, want) {
				t.Fatalf("Fused(%g, %g, %g): %g, want %g", c[0], c[1], third, got, want)
			}
		}
	}
}
