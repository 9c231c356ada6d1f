package eft_test

import (
	"math"
	"math/big"
	"testing"
)

var inf, nan, least, most = math.Inf(1), math.NaN(), math.SmallestNonzeroFloat64, math.MaxFloat64

// below is by how many digits in twos below the point units counts.
const below = 1074

// finite: is x neither infinite nor no number?
func finite(x float64) bool { return !math.IsNaN(x) && !math.IsInf(x, 0) }

// same: are two floats the same, or both no number? (The sign of 0 doesn't matter.)
func same(x, y float64) bool { return x == y || math.IsNaN(x) && math.IsNaN(y) }

// stream answers words that are spread over all bits, the same ones in each run.
func stream() func() uint64 {
	state := uint64(4)
	return func() uint64 {
		state += 0x9e3779b97f4a7c15
		z := state
		z = (z ^ z>>30) * 0xbf58476d1ce4e5b9
		z = (z ^ z>>27) * 0x94d049bb133111eb
		return z ^ z>>31
	}
}

// corners: the corners of the floats, of both signs, with what isn't finite.
func corners() []float64 {
	l := []float64{0, inf, nan, 0.1, 3, 10}
	for _, exp := range []uint64{0, 1, 2, 53, 54, 486, 511, 512, 538, 564, 970, 1022, 1023, 1024, 1075, 1076, 1535, 1536, 1993, 2045, 2046} {
		for _, frac := range []uint64{0, 1, 1<<51 - 1, 1 << 51, 1<<52 - 1} {
			l = append(l, math.Float64frombits(exp<<52|frac))
		}
	}
	for _, x := range l {
		l = append(l, -x)
	}
	return l
}

// pairs: each corner with each, and many whose exponents lie so that sums,
// products and quotients of them come to all that they may come to.
func pairs() [][2]float64 {
	var l [][2]float64
	for _, a := range corners() {
		for _, b := range corners() {
			l = append(l, [2]float64{a, b})
		}
	}
	next := stream()
	for i := range 40000 {
		a, b := some(next), some(next)
		switch i % 5 {
		case 1:
			b = with(b, near(next, exponent(a), 56)) // sums that lose some
		case 2:
			b = with(b, near(next, 1023-exponent(a)-972, 60)) // products around the least of which all is a float
		case 3:
			b = with(b, near(next, exponent(a)+1022, 60)) // quotients about to have no leading one
		case 4:
			b = with(b, near(next, exponent(a)-1022, 60)) // quotients about to be infinite
		}
		l = append(l, [2]float64{a, b})
	}
	return l
}

// some is a float, in half of all cases one with few digits.
func some(next func() uint64) float64 {
	w := next()
	if w%2 == 0 {
		w &^= 1<<(w>>1%53) - 1
	}
	x := math.Float64frombits(next()&(1<<63) | w>>1)
	if !finite(x) {
		return 1
	}
	return x
}

// exponent is the field of the exponent of x.
func exponent(x float64) int { return int(math.Float64bits(x) >> 52 & 2047) }

// with is x with another exponent, or the one of those that is nearest.
func with(x float64, exp int) float64 {
	exp = min(max(exp, 0), 2046)
	return math.Float64frombits(math.Float64bits(x)&^(2047<<52) | uint64(exp)<<52)
}

// near is a number that is no more than by reach from mid.
func near(next func() uint64, mid, reach int) int { return mid - reach + int(next()%uint64(2*reach+1)) }

// units is x, in the least floats.
func units(x float64) *big.Int {
	b := math.Float64bits(math.Abs(x))
	n := new(big.Int).SetUint64(b & (1<<52 - 1))
	if exp := uint(b >> 52); exp > 0 {
		n.SetBit(n, 52, 1)
		n.Lsh(n, exp-1)
	}
	if x < 0 {
		n.Neg(n)
	}
	return n
}

// squares is x, in squares of the least float.
func squares(x float64) *big.Int { return new(big.Int).Lsh(units(x), below) }

// float is the nearest float to n, in squares of the least float, and whether it is just n.
func float(n *big.Int) (float64, bool) {
	x := new(big.Float).SetInt(n)
	y, _ := x.SetMantExp(x, -2*below).Float64()
	return y, finite(y) && squares(y).Cmp(n) == 0
}

// lost fails unless a call answered first, and the float that is just rest (in
// squares of the least float); or nothing, if first isn't finite, or there is no such float.
func lost(t *testing.T, what string, of []float64, x, y float64, ok bool, first float64, rest func() *big.Int) {
	t.Helper()
	all := finite(first)
	for _, z := range of {
		all = all && finite(z)
	}
	var second float64
	if all {
		second, all = float(rest())
	}
	if !all {
		first, second = 0, 0
	}
	if ok != all || x != first || y != second {
		t.Errorf("%s of %g: %g %g %t, want %g %g %t", what, of, x, y, ok, first, second, all)
	}
}
