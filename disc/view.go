package disc

import (
	"math"

	"enclosure/twofold"
)

// view is what is seen from z of a root: how far it is, and where to. Both are told by
// the polynomial over the product of all that lies from z to the other numbers; as that
// isn't 0 at the roots that these have found (so Ehrlich and Aberth find roots).
type view struct {
	z    complex128
	left float64    // what that is at z, in powers of two: nearly how far the root is, but for a factor
	step complex128 // Newton's step to where it is 0, over z
}

// after is where a step from z leads to.
func (v view) after(step complex128) complex128 { return plain(v.z - v.z*step) }

// plain is z without a part that is far less than what the other one may lack.
func plain(z complex128) complex128 {
	x, y := real(z), imag(z)
	switch {
	case math.Abs(y) < math.Abs(x)*0x1p-64:
		return complex(x, 0)
	case math.Abs(x) < math.Abs(y)*0x1p-64:
		return complex(0, y)
	}
	return z
}

// way tells what a polynomial is at w, and how steep it is there: its slope times w.
type way func(p []complex128, w complex128) (value, slope complex128)

// view is what the number i sees by a way from z.
func (s search) view(i int, z complex128, by way) view {
	value, slope, left := s.at(z, by)
	var pull complex128
	for j, w := range s.near {
		if j != i {
			share, far := between(z, w)
			pull += share
			left -= far
		}
	}
	return view{z, left, value / (slope - value*pull)}
}

// between is z over what lies between w and z, and how far that is, in powers of two.
func between(z, w complex128) (share complex128, far float64) {
	if d := z - w; finite(d) {
		return z / d, size(d)
	}
	d := z/2 - w/2 // the whole is more than floats reach
	return z / 2 / d, size(d) + 1
}

// at is what the polynomial is at z, and its slope times z, both over one power of
// two, so that they are neither too great nor too low; and the size of the value.
func (s search) at(z complex128, by way) (value, slope complex128, whole float64) {
	e, top := place(z), math.MinInt
	for k, c := range s.p {
		if c != 0 {
			top = max(top, place(c)+k*e)
		}
	}
	var p []complex128
	for k, c := range s.p {
		p = append(p, shifted(c, k*e-top))
	}
	value, slope = by(p, shifted(z, -e))
	return value, slope, size(value) + float64(top)
}

// quick is the way by floats.
func quick(p []complex128, w complex128) (value, slope complex128) {
	for k := len(p) - 1; k >= 0; k-- {
		slope = slope*w + value
		value = value*w + p[k]
	}
	return value, slope * w
}

// sure is the way by fractions, rounded at the end: near a root floats may leave
// nothing that is right.
func sure(p []complex128, w complex128) (value, slope complex128) {
	var v, t twofold.Num
	at := twofold.Of(w)
	for k := len(p) - 1; k >= 0; k-- {
		t = t.Mul(at).Add(v)
		v = v.Mul(at).Add(twofold.Of(p[k]))
	}
	return v.Float(), t.Mul(at).Float()
}

// place is the least power of two that both parts of z are less than.
func place(z complex128) int {
	_, e := math.Frexp(max(math.Abs(real(z)), math.Abs(imag(z))))
	return e
}

// shifted is z times 2 to the power of n.
func shifted(z complex128, n int) complex128 {
	return complex(math.Ldexp(real(z), n), math.Ldexp(imag(z), n))
}

// size is how far z is from 0, in powers of two.
func size(z complex128) float64 {
	e := place(z)
	w := shifted(z, -e)
	return math.Log2(math.Hypot(real(w), imag(w))) + float64(e)
}
