package twofold_test

import (
	"math"
	"math/big"
	"testing"

	"enclosure/exact"
	"enclosure/twofold"
)

// fraction is x as the library has it.
func fraction(x exact.Num) *big.Rat {
	r, _ := new(big.Rat).SetString(x.Text())
	return r
}

// is fails unless a is x + y i.
func is(t *testing.T, what string, a twofold.Num, x, y *big.Rat) {
	t.Helper()
	if fraction(a.X).Cmp(x) != 0 || fraction(a.Y).Cmp(y) != 0 {
		t.Errorf("%s: %s + %s i, want %s + %s i", what, a.X.Text(), a.Y.Text(), x, y)
	}
}

func rat(x float64) *big.Rat { return new(big.Rat).SetFloat64(x) }

func plus(x, y *big.Rat) *big.Rat { return new(big.Rat).Add(x, y) }

func less(x, y *big.Rat) *big.Rat { return new(big.Rat).Sub(x, y) }

func times(x, y *big.Rat) *big.Rat { return new(big.Rat).Mul(x, y) }

func over(x, y *big.Rat) *big.Rat { return new(big.Rat).Quo(x, y) }

func TestReckonsExactly(t *testing.T) {
	parts := []float64{0, 1, -1, 0.1, -3, 1 + 0x1p-52, math.MaxFloat64, -math.SmallestNonzeroFloat64, 0x1p-600}
	var l []complex128
	for _, x := range parts {
		for _, y := range parts {
			l = append(l, complex(x, y))
		}
	}
	for _, a := range l {
		for _, b := range l {
			v, w := twofold.Of(a), twofold.Of(b)
			x, y, p, q := rat(real(a)), rat(imag(a)), rat(real(b)), rat(imag(b))
			is(t, "Of", v, x, y)
			is(t, "Add", v.Add(w), plus(x, p), plus(y, q))
			is(t, "Sub", v.Sub(w), less(x, p), less(y, q))
			is(t, "Mul", v.Mul(w), less(times(x, p), times(y, q)), plus(times(x, q), times(y, p)))
			norm := plus(times(p, p), times(q, q))
			if fraction(w.Norm()).Cmp(norm) != 0 {
				t.Errorf("Norm of %v: %s, want %s", b, w.Norm().Text(), norm)
			}
			if b != 0 {
				is(t, "Quo", v.Quo(w), over(plus(times(x, p), times(y, q)), norm), over(less(times(y, p), times(x, q)), norm))
			}
		}
	}
}

func TestFloatRoundsBothParts(t *testing.T) {
	inf := complex(math.Inf(1), 0)
	most := twofold.Of(complex(math.MaxFloat64, -math.MaxFloat64))
	for _, c := range []struct {
		a    twofold.Num
		want complex128
	}{
		{twofold.Num{}, 0},
		{twofold.Of(1.5 - 2i), 1.5 - 2i},
		{twofold.Of(1 + 2i).Quo(twofold.Of(3)), complex(1./3, 2./3)},
		{twofold.Of(1 + 1i).Add(twofold.Of(0x1p-60 - 0x1p-60i)), 1 + 1i},
		{most, complex(math.MaxFloat64, -math.MaxFloat64)},
		{most.Mul(twofold.Of(2)), inf},
		{most.Add(twofold.Of(complex(math.MaxFloat64, 0))), inf},
		{most.Sub(twofold.Of(complex(0, math.MaxFloat64))), inf},
	} {
		if got := c.a.Float(); got != c.want {
			t.Errorf("Float of %s and %s: %v, want %v", c.a.X.Text(), c.a.Y.Text(), got, c.want)
		}
	}
}
