package cplx

import (
	"math"
	"sort"

	"enclosure/api"
	"enclosure/bits"
	"enclosure/exact"
	"enclosure/nums"
	"enclosure/twofold"
)

// Abs is how far a is from 0, rounded.
func Abs(a complex128, mode int) (float64, api.Errno) {
	if mode < api.Near || mode > api.In {
		return 0, api.ErrRange
	}
	switch Kind(a) {
	case api.NaN:
		return math.NaN(), api.OK
	case api.Inf:
		return math.Inf(1), api.OK
	}
	return twofold.Of(a).Norm().Root(mode)
}

// Root is the root of a whose real part isn't below 0, and if that is 0, whose
// imaginary part isn't: each part rounded.
func Root(a complex128) complex128 {
	switch Kind(a) {
	case api.NaN:
		return none()
	case api.Inf:
		return infinite()
	}
	z := twofold.Of(a)
	norm := z.Norm()
	x, y := part(norm, z.X), part(norm, z.X.Neg())
	if z.Y.Sign() < 0 {
		y = -y
	}
	return complex(x, y)
}

// part is the root of (r + x) / 2, rounded, where r is the root of norm, no less than
// x or -x: so far from 0 is the real part of a root of what has the real part x; and
// with -x the imaginary part.
func part(norm, x exact.Num) float64 {
	return nearest(func(m exact.Num) int {
		// It is more than m, which is above 0, if r is more than 2 m m - x. That may
		// be below 0, but is nearer to 0 than r then, so that squares tell it, too.
		square := m.Mul(m)
		rest := square.Add(square).Sub(x)
		return norm.Cmp(rest.Mul(rest))
	})
}

// nearest is a number that isn't below 0, rounded. Of it nothing need be known but
// how it stands to those above 0: cmp is the sign of it less m. So it may be one that
// is no fraction.
func nearest(cmp func(m exact.Num) int) float64 {
	// Floats that aren't below 0 stand as their bits do.
	end := bits.Key(math.Inf(1))
	key := sort.Search(end, func(key int) bool {
		sign := cmp(middle(math.Float64frombits(uint64(key))))
		return sign < 0 || sign == 0 && key%2 == 0
	})
	return math.Float64frombits(uint64(key))
}

// middle is halfway from x, which is finite and not below 0, to the next float above.
func middle(x float64) exact.Num {
	half, _ := exact.Two(-1)
	return nums.Just(x).Add(nums.Just(bits.Ulp(x)).Mul(half))
}
