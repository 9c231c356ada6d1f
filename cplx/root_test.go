package cplx_test

import (
	"math"
	"math/big"
	"testing"

	"enclosure/api"
	"enclosure/cplx"
)

// far fails unless x is the root of v, rounded: it is held against squares.
func far(t *testing.T, a complex128, mode int, x float64, v *big.Rat) {
	t.Helper()
	// side is the sign of y y less v.
	side := func(y *big.Rat) int { return times(y, y).Cmp(v) }
	half := big.NewRat(1, 2)
	ok := false
	below, above := math.Nextafter(x, -inf), math.Nextafter(x, inf)
	switch {
	case x < 0 || math.IsNaN(x):
	case mode == api.Near && math.IsInf(x, 1):
		ok = side(plus(rat(most), rat(0x1p970))) <= 0
	case mode == api.Near:
		up := rat(most)
		if x < most {
			up = rat(above)
		}
		top, low := side(times(half, plus(rat(x), up))), 1
		if x == most {
			top = side(plus(rat(most), rat(0x1p970)))
		}
		if x > 0 {
			low = -side(times(half, plus(rat(x), rat(below))))
		}
		even := math.Float64bits(x)&1 == 0
		ok = (top > 0 || top == 0 && even) && (low > 0 || low == 0 && even)
	case mode == api.Up:
		ok = (math.IsInf(x, 1) || side(rat(x)) >= 0) && (x == 0 || side(rat(below)) < 0)
	default:
		ok = side(rat(x)) <= 0 && (x == most || side(rat(above)) > 0)
	}
	if !ok {
		t.Errorf("Abs of %v (%d): %g", a, mode, x)
	}
}

func TestAbs(t *testing.T) {
	for _, mode := range modes {
		for a, want := range map[complex128]float64{0: 0, 1: 1, -1: 1, 1i: 1, -2.5i: 2.5, 3 + 4i: 5, -5 + 12i: 13, 8 - 15i: 17, complex(3*least, -4*least): 5 * least, complex(most, 0): most, complex(0, -most): most, 0x3p1020 + 0x1p1022i: 0x5p1020} {
			if got, err := cplx.Abs(a, mode); err != api.OK || got != want {
				t.Errorf("Abs of %v (%d): %g %d, want %g", a, mode, got, err, want)
			}
		}
		for _, a := range append(finites(4, 4), corners()...) {
			if !finite(a) {
				continue
			}
			x, err := cplx.Abs(a, mode)
			if err != api.OK {
				t.Errorf("Abs of %v: %d", a, err)
			}
			far(t, a, mode, x, norm(a))
		}
	}
}

func TestAbsAtTheEnds(t *testing.T) {
	for _, a := range corners() {
		for _, mode := range modes {
			got, err := cplx.Abs(a, mode)
			if endless(a) && (err != api.OK || !math.IsInf(got, 1)) || nothing(a) && (err != api.OK || !math.IsNaN(got)) {
				t.Errorf("Abs of %v (%d): %g %d", a, mode, got, err)
			}
		}
		for _, mode := range noModes {
			if got, err := cplx.Abs(a, mode); err != api.ErrRange || got != 0 {
				t.Errorf("Abs of %v (%d): %g %d", a, mode, got, err)
			}
		}
	}
	for mode, want := range map[int]float64{api.Near: inf, api.Down: most, api.Up: inf, api.In: most} {
		if got, _ := cplx.Abs(complex(most, most), mode); got != want {
			t.Errorf("Abs of what is too great (%d): %g, want %g", mode, got, want)
		}
	}
}

func TestRootOfOrdinaryNumbers(t *testing.T) {
	for a, want := range map[complex128]complex128{
		4: 2, -4: 2i, 2i: 1 + 1i, -2i: 1 - 1i, 3 + 4i: 2 + 1i, 3 - 4i: 2 - 1i, -3 + 4i: 1 + 2i, -3 - 4i: 1 - 2i,
		2: complex(math.Sqrt2, 0), -2: complex(0, math.Sqrt2), 0.25: 0.5, -5 + 12i: 2 + 3i, 1: 1, -1: 1i,
		complex(0x1p1022, 0): 0x1p511, complex(-0x1p-1074, 0): 0x1p-537i,
	} {
		is(t, "Root", a, cplx.Root(a), want)
	}
}

func TestRootAtTheEnds(t *testing.T) {
	for _, a := range corners() {
		switch {
		case endless(a):
			is(t, "Root", a, cplx.Root(a), infinite)
		case nothing(a):
			is(t, "Root", a, cplx.Root(a), none)
		case a == 0:
			is(t, "Root", a, cplx.Root(a), 0)
		}
	}
}

// The sign of the imaginary part is that of a's, even where the real part is rounded
// to 0; and a nought's own sign is no matter.
func TestRootSigns(t *testing.T) {
	high := math.Sqrt(most)
	for _, c := range []struct{ a, want complex128 }{
		{complex(-4, minus), 2i},
		{complex(-4, 0), 2i},
		{complex(4, minus), 2},
		{complex(minus, minus), 0},
		{complex(-most, least), complex(0, high)},
		{complex(-most, -least), complex(0, -high)},
		{complex(most, -least), complex(high, 0)},
		{complex(minus, -2), 1 - 1i},
	} {
		is(t, "Root", c.a, cplx.Root(c.a), c.want)
	}
}

// digits are enough for all that the root of the norm of a float may lack.
const digits = 7000

func long() *big.Float { return new(big.Float).SetPrec(digits) }

// rootOf is the root of a by far more digits than floats have.
func rootOf(a complex128) complex128 {
	x, y := long().SetFloat64(real(a)), long().SetFloat64(imag(a))
	r := long().Add(long().Mul(x, x), long().Mul(y, y))
	r.Sqrt(r)
	half := func(v *big.Float) float64 {
		if v.Sign() <= 0 {
			return 0
		}
		f, _ := long().Sqrt(v.Quo(v, long().SetInt64(2))).Float64()
		return f
	}
	if imag(a) == 0 {
		return complex(half(long().Mul(x, long().SetInt64(2))), half(long().Mul(x, long().SetInt64(-2))))
	}
	u, v := half(long().Add(r, x)), half(long().Sub(r, x))
	if imag(a) < 0 {
		v = -v
	}
	return complex(u, v)
}

func TestRootIsRounded(t *testing.T) {
	l := finites(5, 6)
	for _, a := range corners() {
		if finite(a) {
			l = append(l, a)
		}
	}
	for _, a := range l {
		is(t, "Root", a, cplx.Root(a), rootOf(a))
	}
}
