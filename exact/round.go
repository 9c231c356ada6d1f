package exact

import (
	mathbits "math/bits"

	"enclosure/api"
	"enclosure/bits"
)

// How floats reach, in powers of two.
const (
	floatDigits = 53    // of a float that has a leading 1
	lowest      = -1074 // the step of the floats around 0
	highest     = 971   // the step of the greatest ones
)

// What is left behind the last step that is counted.
const (
	nothing = iota
	less    // than half of a step
	half
	more
)

// Float is x, rounded.
func (x Num) Float(mode int) (float64, api.Errno) {
	return x.rounded(mode, quotient)
}

// Root is the root of x, rounded.
func (x Num) Root(mode int) (float64, api.Errno) {
	if x.Sign() < 0 {
		return 0, api.ErrRange
	}
	return x.rounded(mode, quotientRoot)
}

// rounded is what reckoned makes of the two parts of x, rounded, with the sign of x.
func (x Num) rounded(mode int, reckoned func(top, low nat) front) (float64, api.Errno) {
	onward := rule(mode, x.top.neg)
	if onward == nil {
		return 0, api.ErrRange
	}
	if x.Sign() == 0 {
		return 0, api.OK
	}
	steps, place, left := reckoned(x.top.mag, x.bar()).cut()
	if left != nothing && onward(steps%2 == 1, left) {
		steps++
	}
	y := bits.Make(int(steps), place)
	if x.top.neg {
		y = -y // behind Make, as 0 keeps its sign, too
	}
	return y, api.OK
}

// rule tells whether a number that lies between two floats goes on to the one that
// is farther from 0, where odd is the nearer one's last bit; nil, if mode is none.
func rule(mode int, neg bool) func(odd bool, left int) bool {
	switch mode {
	case api.Near:
		return func(odd bool, left int) bool { return left == more || left == half && odd }
	case api.Down:
		return func(bool, int) bool { return neg }
	case api.Up:
		return func(bool, int) bool { return !neg }
	case api.In:
		return func(bool, int) bool { return false }
	}
	return nil
}

// front is the front of a number above 0, of 62 or 63 digits in twos: mag times 2 to
// the power of e, and whether something is left behind it.
type front struct {
	mag   uint64
	e     int
	tails bool
}

// quotient is the front of top / low.
func quotient(top, low nat) front {
	e := top.size() - low.size() - 62
	q, rest := scaled(top, -e).divide(scaled(low, e))
	return front{q[0], e, len(rest) > 0}
}

// quotientRoot is the front of the root of top / low.
func quotientRoot(top, low nat) front {
	e := (top.size() - low.size() - 124) >> 1 // the next below, of what is below 0, too
	q, rest := scaled(top, -2*e).divide(scaled(low, 2*e))
	s := q.root()
	return front{s[0], e, len(rest) > 0 || s.times(s).cmp(q) != 0}
}

// scaled is a times 2 to the power of n; a itself, if n is below 0.
func scaled(a nat, n int) nat {
	return a.left(max(n, 0))
}

// cut tells how many steps, of the power of two that floats of this size go by, are
// in a number, and what is left.
func (f front) cut() (steps uint64, place, left int) {
	place = max(f.e+mathbits.Len64(f.mag)-floatDigits, lowest)
	if place > highest {
		return 1<<floatDigits - 1, highest, more // the greatest float is the one ahead of it
	}
	n := place - f.e
	if n > 63 {
		return 0, place, less
	}
	behind, middle := f.mag&(1<<n-1), uint64(1)<<(n-1)
	switch {
	case behind == 0 && !f.tails:
		left = nothing
	case behind < middle:
		left = less
	case behind == middle && !f.tails:
		left = half
	default:
		left = more
	}
	return f.mag >> n, place, left
}
