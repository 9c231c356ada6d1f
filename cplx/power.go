package cplx

import (
	"math"
	mathbits "math/bits"

	"enclosure/api"
	"enclosure/twofold"
)

// greatest is the greatest power.
const greatest = 64

// Pow is a to the power of n, rounded.
func Pow(a complex128, n int) (complex128, api.Errno) {
	if n < -greatest || n > greatest {
		return 0, api.ErrRange
	}
	if n == 0 {
		return 1, api.OK
	}
	switch kindOfPower(a, n) {
	case api.NaN:
		return none(), api.OK
	case api.Inf:
		return infinite(), api.OK
	case api.Zero:
		return 0, api.OK
	}
	z := power(twofold.Of(a), max(n, -n))
	if n < 0 {
		z = twofold.Of(1).Quo(z)
	}
	return z.Float(), api.OK
}

// kindOfPower is the kind of a to the power of n, which isn't 0; Normal, if that must
// be reckoned.
func kindOfPower(a complex128, n int) int {
	switch kind := Kind(a); {
	case kind == api.Inf && n < 0:
		return api.Zero
	case kind == api.Zero && n < 0:
		return api.Inf
	case kind != api.Normal:
		return kind
	}
	// All digits of a power may take long, where its size alone tells that it is too
	// great or too low. The greater part of a is less than 2 to the power of e and
	// at least half of that; so a is no farther from 0 than twice as much.
	_, e := math.Frexp(max(math.Abs(real(a)), math.Abs(imag(a))))
	from, to := min((e-1)*n, (e+1)*n), max((e-1)*n, (e+1)*n)
	switch {
	case from > 1024: // one part is more than 2 to the power of that
		return api.Inf
	case to < -1075: // both parts are less than half of the least float
		return api.Zero
	}
	return api.Normal
}

// power is z to the power of n, which is above 0.
func power(z twofold.Num, n int) twofold.Num {
	p := z
	for i := mathbits.Len(uint(n)) - 2; i >= 0; i-- {
		p = p.Mul(p)
		if n>>i&1 == 1 {
			p = p.Mul(z)
		}
	}
	return p
}
