package expan

import (
	"enclosure/api"
	"enclosure/exact"
	"enclosure/nums"
)

// Pair is the first two entries of a list; 0 for what isn't there.
type Pair struct{ Hi, Lo float64 }

// Add is the pair of p + q.
func (p Pair) Add(q Pair) (Pair, api.Errno) { return reckoned(p, q, always(exact.Num.Add)) }

// Sub is the pair of p - q.
func (p Pair) Sub(q Pair) (Pair, api.Errno) { return reckoned(p, q, always(exact.Num.Sub)) }

// Mul is the pair of p q.
func (p Pair) Mul(q Pair) (Pair, api.Errno) { return reckoned(p, q, always(exact.Num.Mul)) }

// Quo is the pair of p / q.
func (p Pair) Quo(q Pair) (Pair, api.Errno) { return reckoned(p, q, exact.Num.Quo) }

// way is what fractions do with each other.
type way func(x, y exact.Num) (exact.Num, api.Errno)

// always is a way that has no errors.
func always(do func(x, y exact.Num) exact.Num) way {
	return func(x, y exact.Num) (exact.Num, api.Errno) { return do(x, y), api.OK }
}

// reckoned is the pair of what comes of p and q by a way.
func reckoned(p, q Pair, by way) (Pair, api.Errno) {
	x, err := p.value()
	if err != api.OK {
		return Pair{}, err
	}
	y, err := q.value()
	if err != api.OK {
		return Pair{}, err
	}
	v, err := by(x, y)
	if err != api.OK {
		return Pair{}, err
	}
	return pairOf(v)
}

// value is the number of which p is the pair.
func (p Pair) value() (exact.Num, api.Errno) {
	x, fault := read([]float64{p.Hi, p.Lo})
	if fault.Code != api.OK {
		return exact.Num{}, fault.Code
	}
	v := nums.Total(x)
	if q, err := pairOf(v); err != api.OK || q != p {
		return exact.Num{}, api.ErrForm
	}
	return v, api.OK
}

// pairOf is the pair of v.
func pairOf(v exact.Num) (Pair, api.Errno) {
	l, ok := front(v, 2)
	if !ok {
		return Pair{}, api.ErrRange
	}
	var entries [2]float64
	copy(entries[:], l)
	return Pair{entries[0], entries[1]}, api.OK
}
