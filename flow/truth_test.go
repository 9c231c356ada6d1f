package flow_test

import (
	"math/big"

	"enclosure/api"
)

// digits in twos of what is reckoned with here.
const digits = 400

func long(x float64) *big.Float { return new(big.Float).SetPrec(digits).SetFloat64(x) }

func sum(a, b *big.Float) *big.Float { return new(big.Float).SetPrec(digits).Add(a, b) }

func product(a, b *big.Float) *big.Float { return new(big.Float).SetPrec(digits).Mul(a, b) }

// entries is how many of a row are reckoned here.
const entries = 40

// multiplied is the row of the product of two rows, as long as they are.
func multiplied(a, b []*big.Float) []*big.Float {
	var l []*big.Float
	for k := range a {
		v := long(0)
		for i := range k + 1 {
			v = sum(v, product(a[i], b[k-i]))
		}
		l = append(l, v)
	}
	return l
}

// after is where unknowns that begin at y are at the time h, by their rows, reckoned anew
// for each entry; h is so low that what is left out is far less than floats show.
func after(f []api.Term, y []float64, h float64) []*big.Float {
	l := make([][]*big.Float, len(y))
	for i, x := range y {
		l[i] = []*big.Float{long(x)}
	}
	for k := range entries {
		next := make([]*big.Float, len(y))
		for i := range next {
			next[i] = long(0)
		}
		for _, t := range f {
			all := []*big.Float{long(t.K)}
			for len(all) <= k {
				all = append(all, long(0))
			}
			for i, n := range t.Pow {
				for range n {
					all = multiplied(all, l[i])
				}
			}
			next[t.Out] = sum(next[t.Out], all[k])
		}
		for i := range l {
			share := new(big.Float).SetPrec(digits).Quo(next[i], long(float64(k+1)))
			l[i] = append(l[i], share)
		}
	}
	var at []*big.Float
	for _, row := range l {
		v, time := long(0), long(1)
		for _, c := range row {
			v = sum(v, product(c, time))
			time = product(time, long(h))
		}
		at = append(at, v)
	}
	return at
}

// nearly: does v lie in s, as far as after is sure of it?
func nearly(v *big.Float, s api.Span) bool {
	off := product(new(big.Float).Abs(v), long(0x1p-70))
	return sum(v, off).Cmp(long(s.Lo)) >= 0 && sum(v, new(big.Float).Neg(off)).Cmp(long(s.Hi)) <= 0
}

// growing is e to the power of x, from below and from above, where x is from -1 to 1.
func growing(x *big.Rat) (lo, hi *big.Rat) {
	v, part := new(big.Rat), big.NewRat(1, 1)
	for k := 1; k < 30 && new(big.Rat).Abs(part).Cmp(rat(least)) > 0; k++ {
		v = plus(v, part)
		part = over(times(part, x), big.NewRat(int64(k), 1))
	}
	// What is left out has the sign of its first part, and is at most twice as much.
	lo, hi = v, plus(v, plus(part, part))
	if part.Sign() < 0 {
		lo, hi = hi, lo
	}
	return lo, hi
}
