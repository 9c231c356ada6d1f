package cplx_test

import (
	"math"
	"math/big"
	"testing"

	"enclosure/api"
	"enclosure/cplx"
)

// powers fails unless Pow answers what it must, and no error.
func powers(t *testing.T, a complex128, n int, want complex128) {
	t.Helper()
	got, err := cplx.Pow(a, n)
	if err != api.OK || !same(got, want) {
		t.Errorf("Pow of %v, %d: %v %d, want %v", a, n, got, err, want)
	}
}

func TestPowOfOrdinaryNumbers(t *testing.T) {
	for _, c := range []struct {
		a    complex128
		n    int
		want complex128
	}{
		{1 + 1i, 4, -4}, {2i, -1, -0.5i}, {1i, 3, -1i}, {1i, -3, 1i}, {1i, 64, 1}, {1i, -63, 1i},
		{2, 10, 1024}, {2, -10, 1. / 1024}, {-1, 63, -1}, {1 + 2i, 1, 1 + 2i}, {1 + 2i, 2, -3 + 4i},
		{1 + 2i, -1, 0.2 - 0.4i}, {1 + 1i, 64, 0x1p32}, {1 + 1i, -64, 0x1p-32}, {1 + 1i, 63, 0x1p31 - 0x1p31i},
		{3, 40, 12157665459056928801}, {10, 22, 1e22}, {10, 23, 1e23}, {10, -5, 1e-5}, {0.1, 3, 0.0010000000000000002},
	} {
		powers(t, c.a, c.n, c.want)
	}
}

func TestPowAtTheEnds(t *testing.T) {
	for _, a := range corners() {
		powers(t, a, 0, 1)
		for _, n := range []int{1, 2, 63, 64} {
			switch {
			case nothing(a):
				powers(t, a, n, none)
				powers(t, a, -n, none)
			case endless(a):
				powers(t, a, n, infinite)
				powers(t, a, -n, 0)
			case a == 0:
				powers(t, a, n, 0)
				powers(t, a, -n, infinite)
			}
		}
		for _, n := range []int{65, -65, 66, 128, math.MaxInt, math.MinInt} {
			if got, err := cplx.Pow(a, n); err != api.ErrRange || got != 0 {
				t.Errorf("Pow of %v, %d: %v %d", a, n, got, err)
			}
		}
	}
}

// wholes is x and y, both whole, and e so that a is (x + y i) times 2 to the power of e.
func wholes(a complex128) (x, y *big.Int, e int) {
	v := just(a)
	e = 1 - max(v.x.Denom().BitLen(), v.y.Denom().BitLen())
	scale := new(big.Rat).SetInt(new(big.Int).Lsh(big.NewInt(1), uint(-e)))
	return times(v.x, scale).Num(), times(v.y, scale).Num(), e
}

// powerOf is a to the power of n, one factor after the other, rounded.
func powerOf(a complex128, n int) complex128 {
	x, y, e := wholes(a)
	u, v, low := big.NewInt(1), new(big.Int), big.NewInt(1)
	mul := func(a, b *big.Int) *big.Int { return new(big.Int).Mul(a, b) }
	square := mul(x, x)
	square.Add(square, mul(y, y))
	for range max(n, -n) {
		p, q := mul(u, x), mul(u, y)
		u, v = p.Sub(p, mul(v, y)), q.Add(q, mul(v, x))
		if n < 0 {
			low.Mul(low, square)
		}
	}
	if n < 0 {
		v.Neg(v)
	}
	part := func(w *big.Int) float64 {
		f := new(big.Float).SetPrec(uint(w.BitLen() + 200)).SetInt(w)
		f.Quo(f, new(big.Float).SetInt(low))
		x, _ := f.SetMantExp(f, e*n).Float64()
		return x
	}
	z := complex(part(u), part(v))
	if endless(z) {
		return infinite
	}
	return z
}

func TestPowIsRoundedOnce(t *testing.T) {
	next := stream(6)
	some := func() float64 { return float64(int64(next())>>11) * 0x1p-52 }
	for i := range 1500 {
		n := int(next()%129) - 64
		if n == 0 {
			continue
		}
		a := complex(some(), some())
		if i%3 == 0 {
			a = complex(float64(next()%20)-10, float64(next()%20)-10)
		}
		if a != 0 {
			powers(t, a, n, powerOf(a, n))
		}
	}
}

// About the greatest and the least floats, and beyond.
func TestPowOfGreatAndLow(t *testing.T) {
	next := stream(7)
	some := func() float64 { return float64(int64(next())>>11) * 0x1p-52 }
	for i := range 3000 {
		n := int(next()%129) - 64
		if n == 0 {
			continue
		}
		end := 1024
		if i%2 == 0 {
			end = -1075
		}
		e := end/n + int(next()%5) - 2
		a := complex(math.Ldexp(some(), e), math.Ldexp(some(), e-int(next()%12)))
		if i%7 == 0 {
			a = complex(math.Ldexp(1, e), math.Ldexp(some(), e-int(next()%12)))
		}
		if i%3 == 0 {
			a = complex(imag(a), real(a))
		}
		if finite(a) && a != 0 {
			powers(t, a, n, powerOf(a, n))
		}
	}
	// Just at 2 to the power of 1024, but in two parts of nearly the same size.
	powers(t, 0x1p16+804.3i, 64, powerOf(0x1p16+804.3i, 64))
	if z, _ := cplx.Pow(0x1p16+804.3i, 64); endless(z) {
		t.Errorf("Pow of what isn't too great: %v", z)
	}
}

// Parts that are far apart, and all bits there are.
func TestPowOfAllSizes(t *testing.T) {
	for _, a := range finites(8, 1) {
		if a == 0 {
			continue
		}
		for _, n := range []int{1, -1, 2, -2, 3, -5} {
			powers(t, a, n, powerOf(a, n))
		}
	}
	for _, a := range []complex128{complex(1.1, least), complex(-least, 1.3), complex(most, least)} {
		for _, n := range []int{64, -63} {
			powers(t, a, n, powerOf(a, n))
		}
	}
}
