package disc_test

import (
	"math"
	"slices"
	"testing"

	"enclosure/api"
	"enclosure/disc"
)

func TestValueOfOrdinaryPolynomials(t *testing.T) {
	for _, c := range []struct {
		p       []complex128
		z, want complex128
	}{
		{[]complex128{1, 0, 1}, 2, 5},
		{[]complex128{1, 0, 1}, 1i, 0},
		{[]complex128{1, 2, 3}, 0, 1},
		{[]complex128{1, 2, 3}, -1, 2},
		{[]complex128{1i, 1}, 2 + 3i, 2 + 4i},
		{[]complex128{0, 0, 1i}, 1 + 1i, -2},
		{[]complex128{-6, 11, -6, 1}, 3, 0},
		{[]complex128{0, 0, 0, 0, 0, 0, 0, 0, 0, 0, 0, 0, 1}, 1 + 1i, -64},
		{[]complex128{1, 1, 1, 1, 1, 1, 1, 1, 1, 1, 1, 1, 1}, 2, 8191},
		// Rounded once: floats would leave nothing, or too much.
		{[]complex128{1, -2, 1}, 1 + 0x1p-40, 0x1p-80},
		{[]complex128{-2, 0, 1}, complex(math.Sqrt2, 0), complex(math.FMA(math.Sqrt2, math.Sqrt2, -2), 0)},
		{[]complex128{complex(-most, 0), 2}, complex(most, 0), complex(most, 0)},
		{[]complex128{0, complex(-most, 0), 1}, complex(most, 0), 0},
		{[]complex128{complex(least, 0), 0, complex(most, 0)}, complex(least, 0), complex(least, 0)},
		// If one part is infinite, all of it is.
		{[]complex128{0, 2i}, complex(most, 0), complex(inf, 0)},
		{[]complex128{1i, 0, -1}, 0x1p512, complex(inf, 0)},
	} {
		got, err := disc.Value(c.p, c.z)
		told(t, "Value", []any{c.p, c.z}, got, err, c.want, fine)
	}
}

// value is what p is at z.
func value(p []complex128, z complex128) exactly {
	v := just(0)
	for _, c := range slices.Backward(p) {
		v = v.times(just(z)).plus(just(c))
	}
	return v
}

func TestValueIsRoundedOnce(t *testing.T) {
	for _, part := range makers(6) {
		for n := 2; n <= api.MaxDegree+1; n++ {
			for range 3 {
				l := numbers(n+1, part)
				p, z := l[:n], l[n]
				p[n-1] += 0.5 // not 0
				got, err := disc.Value(p, z)
				told(t, "Value", []any{p, z}, got, err, value(p, z).rounded(), fine)
			}
		}
	}
}

// Where the polynomial is nearly 0.
func TestValueNearRoots(t *testing.T) {
	next := stream(7)
	for range 300 {
		roots := make([]complex128, 1+next()%api.MaxDegree)
		for i := range roots {
			roots[i] = complex(float64(next()%5), float64(next()%5)-2)
		}
		p, z := product(roots...), roots[0]
		for _, z = range []complex128{z, complex(math.Nextafter(real(z), 9), imag(z)), z * (1 + 0x1p-30), z + 0x1p-50i} {
			got, err := disc.Value(p, z)
			told(t, "Value", []any{p, z}, got, err, value(p, z).rounded(), fine)
		}
	}
}

// noPolynomials tells what is wrong with lists.
func noPolynomials() map[api.Fault][][]complex128 {
	none := complex(nan, 0)
	return map[api.Fault][][]complex128{
		fault(api.ErrMany, 0):  {nil, {}, {1}, {none}, {0}, make([]complex128, api.MaxDegree+2), slices.Repeat([]complex128{none}, api.MaxDegree+2), make([]complex128, 1000)},
		fault(api.ErrNaN, 0):   {{none, 1}, {notFinite[1], none, 0}, {notFinite[2], 1, 2}, {notFinite[3], 1}, {notFinite[4], 1}, {notFinite[5], 0}},
		fault(api.ErrNaN, 1):   {{1, none}, {0, notFinite[3], 0}, {1, notFinite[1], none}},
		fault(api.ErrNaN, 12):  {append(make([]complex128, 12), none)},
		fault(api.ErrZero, 1):  {{1, 0}, {0, 0}, {0, complex(minus, 0)}, {0, complex(minus, minus)}},
		fault(api.ErrZero, 3):  {{1, 2, 3, 0}},
		fault(api.ErrZero, 12): {make([]complex128, api.MaxDegree+1)},
	}
}

func TestNoPolynomials(t *testing.T) {
	for code, l := range noPolynomials() {
		for _, p := range l {
			for _, z := range append(notFinite, 1) {
				got, err := disc.Value(p, z)
				told(t, "Value", p, got, err, 0, code)
			}
			for _, near := range [][]complex128{nil, {1}, {1, 1}, {complex(nan, 0)}, make([]complex128, 12)} {
				got, err := disc.Discs(p, near)
				toldAll(t, "Discs", p, got, err, nil, code)
			}
			got, err := disc.Find(p)
			toldAll(t, "Find", p, got, err, nil, code)
		}
	}
}

func TestValueAtNoNumber(t *testing.T) {
	for _, p := range [][]complex128{{1, 1}, {0, 0, 1}, append(make([]complex128, api.MaxDegree), 1)} {
		for _, z := range notFinite {
			got, err := disc.Value(p, z)
			told(t, "Value", []any{p, z}, got, err, 0, fault(api.ErrNaN, len(p)))
		}
	}
}
