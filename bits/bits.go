// Package bits has what floats are made of: see doc/01-bits.md.
package bits

import (
	"math"
	mathbits "math/bits"

	"enclosure/api"
)

// farthest is as far as Make looks at powers of two: beyond it every m comes to
// what is infinite, or to 0, and sums of powers might wrap round.
const farthest = 5000

// Kind tells of which kind x is: api.NaN, Inf, Zero, Sub or Normal.
func Kind(x float64) int {
	_, exp, frac := Split(x)
	switch {
	case exp == greatest(double()) && frac != 0:
		return api.NaN
	case exp == greatest(double()):
		return api.Inf
	case exp != 0:
		return api.Normal
	case frac != 0:
		return api.Sub
	}
	return api.Zero
}

// Split tells the three fields of x, of what is no number, too.
func Split(x float64) (neg bool, exp int, frac uint64) {
	return fields(math.Float64bits(x), double())
}

// Join makes a float of the three fields that Split tells.
func Join(neg bool, exp int, frac uint64) (float64, api.Errno) {
	f := double()
	if exp < 0 || exp > greatest(f) || frac >= leading(f) {
		return 0, api.ErrRange
	}
	return signed(neg, uint64(exp)<<f.Frac|frac), api.OK
}

// Whole tells the odd m and the e of which m times 2 to the power of e is x.
func Whole(x float64) (m, e int, err api.Errno) {
	neg, exp, frac := Split(x)
	if exp == greatest(double()) {
		return 0, 0, api.ErrNaN
	}
	mag, e := scaled(exp, frac, double())
	if mag == 0 {
		return 0, 0, api.OK
	}
	even := mathbits.TrailingZeros64(mag)
	m = int(mag >> even)
	if neg {
		m = -m
	}
	return m, e + even, api.OK
}

// Make is m times 2 to the power of e, rounded to the nearest float.
func Make(m, e int) float64 {
	mag := uint64(m)
	if m < 0 {
		mag = -mag // of the least whole number, too, which has no opposite among them
	}
	e = min(max(e, -farthest), farthest)
	return signed(m < 0, nearest(mag, e, double()))
}

// signed is the float of these bits behind the sign.
func signed(neg bool, b uint64) float64 {
	if neg {
		b |= sign(double())
	}
	return math.Float64frombits(b)
}
