package cplx

import (
	"enclosure/api"
	"enclosure/exact"
)

// number is a finite complex number, exactly.
type number struct{ x, y exact.Num }

// numberOf is just what a is, which is finite.
func numberOf(a complex128) number {
	x, _ := exact.Of(real(a))
	y, _ := exact.Of(imag(a))
	return number{x, y}
}

func (a number) plus(b number) number { return number{a.x.Add(b.x), a.y.Add(b.y)} }

func (a number) minus(b number) number { return number{a.x.Sub(b.x), a.y.Sub(b.y)} }

func (a number) times(b number) number {
	return number{a.x.Mul(b.x).Sub(a.y.Mul(b.y)), a.x.Mul(b.y).Add(a.y.Mul(b.x))}
}

// over is a / b, where b isn't 0.
func (a number) over(b number) number {
	v, norm := a.times(number{b.x, b.y.Neg()}), b.norm()
	x, _ := v.x.Quo(norm)
	y, _ := v.y.Quo(norm)
	return number{x, y}
}

func (a number) norm() exact.Num { return a.x.Mul(a.x).Add(a.y.Mul(a.y)) }

// rounded is a with both parts rounded.
func (a number) rounded() complex128 {
	x, _ := a.x.Float(api.Near)
	y, _ := a.y.Float(api.Near)
	z := complex(x, y)
	if Kind(z) == api.Inf {
		return infinite()
	}
	return z
}
