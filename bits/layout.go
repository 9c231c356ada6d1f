package bits

import (
	mathbits "math/bits"

	"enclosure/api"
)

// double is how a float is laid out. It is no format that Pack takes, but
// floats and small formats are read and rounded by the same rules.
func double() api.Form { return api.Form{Exp: 11, Frac: 52} }

// greatest is the exponent of what is infinite or no number.
func greatest(f api.Form) int { return 1<<f.Exp - 1 }

// less is by how much the exponent is less than its field.
func less(f api.Form) int { return 1<<(f.Exp-1) - 1 }

// leading is the 1 that stands ahead of the fraction, and isn't written.
func leading(f api.Form) uint64 { return 1 << f.Frac }

// sign is the bit of the sign.
func sign(f api.Form) uint64 { return 1 << (f.Exp + f.Frac) }

// infinite is what is infinite, and above 0.
func infinite(f api.Form) uint64 { return uint64(greatest(f)) << f.Frac }

// fields takes b apart.
func fields(b uint64, f api.Form) (neg bool, exp int, frac uint64) {
	frac = b & (leading(f) - 1)
	exp = int(b>>f.Frac) & greatest(f)
	return b&sign(f) != 0, exp, frac
}

// scaled tells what is finite, without its sign, as mag times 2 to the power of e.
func scaled(exp int, frac uint64, f api.Form) (mag uint64, e int) {
	mag = frac
	if exp != 0 {
		mag |= leading(f)
	}
	return mag, max(exp, 1) - less(f) - f.Frac
}

// nearest is mag times 2 to the power of e, rounded once into a format.
func nearest(mag uint64, e int, f api.Form) uint64 {
	if mag == 0 {
		return 0
	}
	top := e + mathbits.Len64(mag) - 1
	if top > less(f) {
		return infinite(f) // ahead of the sum below, which would spill
	}
	least := 1 - less(f)
	place := max(top, least)
	steps := shift(mag, e-(place-f.Frac))
	// The leading 1 of steps counts as one in the exponent, and so does what
	// is carried when rounding fills the fraction: up to what is infinite.
	return uint64(place-least)<<f.Frac + steps
}

// shift is mag times 2 to the power of n, rounded to the nearest whole number,
// of two as near to the even one.
func shift(mag uint64, n int) uint64 {
	if n >= 0 {
		return mag << n
	}
	if n < -64 {
		return 0 // less than a half
	}
	kept := mag >> -n
	half := uint64(1) << (-n - 1)
	lost := mag & (half | (half - 1))
	if lost > half || lost == half && kept&1 == 1 {
		kept++
	}
	return kept
}
