package exact

import (
	"enclosure/api"
)

// Add is x + y.
func (x Num) Add(y Num) Num { return joined(x, y, whole.plus) }

// Sub is x - y.
func (x Num) Sub(y Num) Num { return joined(x, y, whole.minus) }

// joined brings x and y over one bar, and does there what both says.
func joined(x, y Num, both func(whole, whole) whole) Num {
	shared := common(x.bar(), y.bar())
	a, b := x.bar().over(shared), y.bar().over(shared)
	top := both(x.top.times(b), y.top.times(a))
	// Neither a nor b has a divisor in common with top: each has none with
	// what is above its own bar, and none with the other one.
	again := common(top.mag, shared)
	top.mag = top.mag.over(again)
	return fraction(top, a.times(b).times(shared.over(again)))
}

// Mul is x y.
func (x Num) Mul(y Num) Num {
	// Divisors are taken out ahead, where numbers are still short.
	g, h := common(x.top.mag, y.bar()), common(y.top.mag, x.bar())
	top := x.top.mag.over(g).times(y.top.mag.over(h))
	low := x.bar().over(h).times(y.bar().over(g))
	return fraction(signed(x.top.neg != y.top.neg, top), low)
}

// Neg is -x.
func (x Num) Neg() Num {
	return fraction(x.top.opposite(), x.bar().copied())
}

// Quo is x / y.
func (x Num) Quo(y Num) (Num, api.Errno) {
	if y.Sign() == 0 {
		return Num{}, api.ErrZero
	}
	upside := fraction(signed(y.top.neg, y.bar()), y.top.mag)
	return x.Mul(upside), api.OK
}

// Sign is -1, 0 or 1.
func (x Num) Sign() int { return x.top.sign() }

// Cmp is the sign of x - y.
func (x Num) Cmp(y Num) int {
	return x.top.times(y.bar()).minus(y.top.times(x.bar())).sign()
}

// Floor is the greatest whole number that isn't above x.
func (x Num) Floor() Num {
	q, rest := x.top.mag.divide(x.bar())
	if x.top.neg && len(rest) > 0 {
		q = q.plus(nat{1})
	}
	return fraction(signed(x.top.neg, q), nat{1})
}

// Square is the fraction whose square x is.
func (x Num) Square() (Num, api.Errno) {
	if x.Sign() < 0 {
		return Num{}, api.ErrRange
	}
	top, low := x.top.mag.root(), x.bar().root()
	if top.times(top).cmp(x.top.mag) != 0 || low.times(low).cmp(x.bar()) != 0 {
		return Num{}, api.ErrNone
	}
	return fraction(signed(false, top), low), api.OK
}
