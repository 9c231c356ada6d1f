// Package ends has spans whose ends are fractions, so that nothing is rounded on the way.
package ends

import (
	"math"
	"slices"

	"enclosure/api"
	"enclosure/exact"
	"enclosure/nums"
)

// Span is all numbers from Lo to Hi, which isn't below Lo.
type Span struct{ Lo, Hi exact.Num }

// Of is just what s is, whose ends are finite.
func Of(s api.Span) Span { return Span{nums.Just(s.Lo), nums.Just(s.Hi)} }

// Add is the span of all sums.
func (a Span) Add(b Span) Span { return Span{a.Lo.Add(b.Lo), a.Hi.Add(b.Hi)} }

// Sub is the span of all differences.
func (a Span) Sub(b Span) Span { return Span{a.Lo.Sub(b.Hi), a.Hi.Sub(b.Lo)} }

// Mul is the span of all products.
func (a Span) Mul(b Span) Span { return corners(a, b, exact.Num.Mul) }

// Quo is the span of all quotients.
func (a Span) Quo(b Span) (Span, api.Errno) {
	if b.hasZero() {
		return Span{}, api.ErrZero
	}
	return corners(a, b, func(x, y exact.Num) exact.Num {
		q, _ := x.Quo(y)
		return q
	}), api.OK
}

// Pow is the span of all n-th powers, where n isn't below 0.
func (a Span) Pow(n int) Span {
	power := func(x exact.Num) exact.Num {
		v := exact.Int(1)
		for range n {
			v = v.Mul(x)
		}
		return v
	}
	l := []exact.Num{power(a.Lo), power(a.Hi)}
	if n > 0 && a.hasZero() {
		l = append(l, exact.Num{}) // where even powers turn
	}
	return around(l)
}

// In: does all of a lie in b?
func (a Span) In(b Span) bool { return a.Lo.Cmp(b.Lo) >= 0 && a.Hi.Cmp(b.Hi) <= 0 }

// Meet is what lies in both a and b, which have something in common.
func (a Span) Meet(b Span) Span {
	lo := []exact.Num{a.Lo, b.Lo}
	hi := []exact.Num{a.Hi, b.Hi}
	return Span{slices.MaxFunc(lo, exact.Num.Cmp), slices.MinFunc(hi, exact.Num.Cmp)}
}

// Out is a, rounded outwards.
func (a Span) Out() (api.Span, api.Errno) {
	lo, _ := a.Lo.Float(api.Down)
	hi, _ := a.Hi.Float(api.Up)
	if math.IsInf(lo, 0) || math.IsInf(hi, 0) {
		return api.Span{}, api.ErrRange
	}
	return api.Span{Lo: lo, Hi: hi}, api.OK
}

// hasZero: does 0 lie in a?
func (a Span) hasZero() bool { return a.Lo.Sign() <= 0 && a.Hi.Sign() >= 0 }

// corners is the span of all that comes of a number of a and one of b, of a way that
// only rises or only falls with each of them while the other one stays: then no
// number comes to less, or to more, than ends do.
func corners(a, b Span, by func(x, y exact.Num) exact.Num) Span {
	return around([]exact.Num{by(a.Lo, b.Lo), by(a.Lo, b.Hi), by(a.Hi, b.Lo), by(a.Hi, b.Hi)})
}

// around is the least span in which all of l lie.
func around(l []exact.Num) Span {
	return Span{slices.MinFunc(l, exact.Num.Cmp), slices.MaxFunc(l, exact.Num.Cmp)}
}
