// Package twofold has finite complex numbers, exactly: two fractions each.
package twofold

import (
	"math"

	"enclosure/api"
	"enclosure/exact"
	"enclosure/nums"
)

// Num is X + Y i.
type Num struct{ X, Y exact.Num }

// Of is just what a is, which is finite.
func Of(a complex128) Num { return Num{nums.Just(real(a)), nums.Just(imag(a))} }

// Add is a + b.
func (a Num) Add(b Num) Num { return Num{a.X.Add(b.X), a.Y.Add(b.Y)} }

// Sub is a - b.
func (a Num) Sub(b Num) Num { return Num{a.X.Sub(b.X), a.Y.Sub(b.Y)} }

// Mul is a b.
func (a Num) Mul(b Num) Num {
	return Num{a.X.Mul(b.X).Sub(a.Y.Mul(b.Y)), a.X.Mul(b.Y).Add(a.Y.Mul(b.X))}
}

// Quo is a / b, where b isn't 0.
func (a Num) Quo(b Num) Num {
	v, norm := a.Mul(Num{b.X, b.Y.Neg()}), b.Norm()
	x, _ := v.X.Quo(norm)
	y, _ := v.Y.Quo(norm)
	return Num{x, y}
}

// Norm is X X + Y Y.
func (a Num) Norm() exact.Num { return a.X.Mul(a.X).Add(a.Y.Mul(a.Y)) }

// Float is a with both parts rounded; the infinite one of chapter 7, if one of them
// is infinite then.
func (a Num) Float() complex128 {
	x, _ := a.X.Float(api.Near)
	y, _ := a.Y.Float(api.Near)
	if math.IsInf(x, 0) || math.IsInf(y, 0) {
		return complex(math.Inf(1), 0)
	}
	return complex(x, y)
}
