package flow

import (
	"math"

	"enclosure/api"
	"enclosure/ends"
	"enclosure/exact"
	"enclosure/nums"
)

// box is a span of each unknown.
type box []ends.Span

// each is what do makes of each span of a.
func (a box) each(do func(s ends.Span) ends.Span) box {
	l := make(box, len(a))
	for i := range len(a) {
		l[i] = do(a[i])
	}
	return l
}

// both is what do makes of the spans of a and b of each unknown.
func both(a, b box, do func(s, u ends.Span) ends.Span) box {
	l := make(box, len(a))
	for i := range len(a) {
		l[i] = do(a[i], b[i])
	}
	return l
}

// alone is the span of v and nothing else.
func alone(v exact.Num) ends.Span { return ends.Span{Lo: v, Hi: v} }

// in: does all of a lie in b?
func (a box) in(b box) bool {
	for i := range len(a) {
		if !a[i].In(b[i]) {
			return false
		}
	}
	return true
}

// out is a, rounded outwards.
func (a box) out() ([]api.Span, api.Errno) {
	var l []api.Span
	for _, s := range a {
		v, err := s.Out()
		if err != api.OK {
			return nil, err
		}
		l = append(l, v)
	}
	return l, api.OK
}

// far: is an end of a so far from 0 that it isn't worth while to go on?
func (a box) far() bool {
	most, _ := exact.Two(api.MaxShift)
	near := ends.Span{Lo: most.Neg(), Hi: most}
	for _, s := range a {
		if !s.In(near) {
			return true
		}
	}
	return false
}

// loose is a, rounded outwards to as many digits as floats have, so that numbers stay
// short; but beyond the greatest float, too, so that a box that is too great for floats
// is told from one that never ends.
func (a box) loose() box {
	return a.each(func(s ends.Span) ends.Span {
		return ends.Span{Lo: rough(s.Lo, api.Down), Hi: rough(s.Hi, api.Up)}
	})
}

// rough is v, rounded to as many digits as floats have.
func rough(v exact.Num, mode int) exact.Num {
	x, unit := scaled(v, mode)
	return nums.Just(x).Mul(unit)
}

// coarse is v, which isn't below 0, rounded up to its first four digits in twos.
func coarse(v exact.Num) exact.Num {
	x, unit := scaled(v, api.Up)
	part, e := math.Frexp(x)
	return nums.Just(math.Ldexp(math.Ceil(16*part), e-4)).Mul(unit)
}

// lift is the power of two by which what is too great for a float is brought down: not
// so low that it would lose digits.
const lift = 2000

// scaled is v, rounded, as a float times a unit, and below the greatest power of two that
// is a float.
func scaled(v exact.Num, mode int) (x float64, unit exact.Num) {
	up, _ := exact.Two(lift)
	down, _ := exact.Two(-lift)
	unit = exact.Int(1)
	for {
		x, _ = v.Float(mode)
		if math.Abs(x) < 0x1p1023 {
			return x, unit
		}
		v, unit = v.Mul(down), unit.Mul(up)
	}
}
