package bits

import (
	"math"

	"enclosure/api"
)

// small tells whether f is a format that Pack and Unpack take.
func small(f api.Form) bool {
	return f.Exp >= 2 && f.Exp <= 8 && f.Frac >= 1 && f.Frac <= 23
}

// Pack is x in a format: the nearest one.
func Pack(x float64, f api.Form) (uint64, api.Errno) {
	if !small(f) {
		return 0, api.ErrForm
	}
	neg, exp, frac := Split(x)
	b := infinite(f)
	switch Kind(x) {
	case api.NaN:
		return b | leading(f)>>1, api.OK
	case api.Inf:
	default:
		mag, e := scaled(exp, frac, double())
		b = nearest(mag, e, f)
	}
	if neg {
		b |= sign(f)
	}
	return b, api.OK
}

// Unpack is the float that b is in a format: exactly, as floats reach farther than all of these.
func Unpack(b uint64, f api.Form) (float64, api.Errno) {
	if !small(f) {
		return 0, api.ErrForm
	}
	if b >= 2*sign(f) {
		return 0, api.ErrRange
	}
	neg, exp, frac := fields(b, f)
	if exp < greatest(f) {
		mag, e := scaled(exp, frac, f)
		return signed(neg, nearest(mag, e, double())), api.OK
	}
	if frac != 0 {
		return math.NaN(), api.OK
	}
	return signed(neg, infinite(double())), api.OK
}
