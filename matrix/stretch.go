package matrix

import (
	"math"

	"enclosure/api"
	"enclosure/bits"
	"enclosure/exact"
	"enclosure/nums"
)

// greatest is the greatest entry of which Stretches tells.
const greatest = 1e300

// uneven tells what is wrong with a, which must be symmetric.
func uneven(a [][]float64) api.Fault {
	if fault := wrong(a); fault.Code != api.OK {
		return fault
	}
	for i := range len(a) {
		for k := range len(a) {
			if a[i][k] != a[k][i] {
				return api.Fault{Code: api.ErrForm, At: i}
			}
		}
	}
	return api.Fault{}
}

// Below is how many of the numbers that a symmetric matrix stretches by are below x.
func Below(a [][]float64, x float64) (int, api.Fault) {
	if fault := uneven(a); fault.Code != api.OK {
		return 0, fault
	}
	if !finite(x) {
		return 0, api.Fault{Code: api.ErrNaN, At: len(a)}
	}
	p, _ := exactly(a).polynomial()
	below, _ := beside(p, x)
	return below, api.Fault{}
}

// Stretches tells of each of them, rising, the floats next to it, or it itself.
func Stretches(a [][]float64) ([]api.Span, api.Fault) {
	if fault := uneven(a); fault.Code != api.OK {
		return nil, fault
	}
	for _, row := range a {
		for _, x := range row {
			if math.Abs(x) > greatest {
				return nil, api.Fault{Code: api.ErrRange}
			}
		}
	}
	p, _ := exactly(a).polynomial()
	var l []api.Span
	for k := range len(a) {
		l = append(l, around(p, k))
	}
	return l, api.Fault{}
}

// Near is how far from x, at most, the nearest one of them is, as v shows it.
func Near(a [][]float64, v []float64, x float64) (float64, api.Fault) {
	if fault := uneven(a); fault.Code != api.OK {
		return 0, fault
	}
	n := len(a)
	if fault := unfit(v, n, n); fault.Code != api.OK {
		return 0, fault
	}
	if !finite(x) {
		return 0, api.Fault{Code: api.ErrNaN, At: n}
	}
	w := entries(v)
	off := exactly(a).more(nums.Just(x).Neg()).along(w)
	square, err := dot(off, off).Quo(dot(w, w)) // by 0, if all of v are 0, and only then
	if err != api.OK {
		return 0, api.Fault{Code: err, At: n}
	}
	d, _ := square.Root(api.Up)
	return d, api.Fault{}
}

// beside tells how many of the numbers at which p is 0 are below x, and how many above
// it. Each counts as often as it is one; and none of them is complex.
func beside(p []exact.Num, x float64) (below, above int) {
	var there, back []int
	for k, v := range moved(p, nums.Just(x)) {
		there = append(there, v.Sign())
		back = append(back, v.Sign()*(1-k%2*2))
	}
	return turns(back), turns(there)
}

// moved is p, with x told as 0.
func moved(p []exact.Num, x exact.Num) []exact.Num {
	q := append([]exact.Num{}, p...)
	for i := range len(q) {
		for k := len(q) - 2; k >= i; k-- {
			q[k] = q[k].Add(q[k+1].Mul(x))
		}
	}
	return q
}

// turns is how often the signs of l change, but for 0. If the numbers at which a
// polynomial is 0 aren't complex, just as many of them are above 0 as its signs change
// (Descartes' rule).
func turns(l []int) int {
	n, last := 0, 0
	for _, sign := range l {
		if sign*last < 0 {
			n++
		}
		if sign != 0 {
			last = sign
		}
	}
	return n
}

// around is the floats next to the number at which p is 0, with k of them ahead of it.
func around(p []exact.Num, k int) api.Span {
	// None is as far from 0 as the greatest float: no row's entries come to so much.
	lo, hi := bits.Key(-math.MaxFloat64), bits.Key(math.MaxFloat64)
	for uint64(hi)-uint64(lo) > 1 {
		mid := lo + int((uint64(hi)-uint64(lo))/2)
		if below, _ := beside(p, keyed(mid)); below > k {
			hi = mid
		} else {
			lo = mid
		}
	}
	if _, above := beside(p, keyed(lo)); above < len(p)-1-k {
		hi = lo
	}
	return api.Span{Lo: keyed(lo), Hi: keyed(hi)}
}

// keyed is the float whose key is k.
func keyed(k int) float64 {
	if k < 0 {
		return -math.Float64frombits(uint64(-1 - k))
	}
	return math.Float64frombits(uint64(k))
}
