package taylor

import (
	"math"
	"slices"

	"enclosure/api"
	"enclosure/exact"
	"enclosure/nums"
)

// tube is a model of which nothing is rounded: all functions that are nowhere farther
// than rest from the polynomial c.
type tube struct {
	c    []exact.Num
	rest exact.Num
}

// read is just what m is.
func read(m Model) (tube, api.Fault) {
	if len(m.C) > api.MaxDegree+1 {
		return tube{}, api.Fault{Code: api.ErrMany}
	}
	c, fault := nums.Read(m.C)
	if fault.Code != api.OK {
		return tube{}, fault
	}
	rest, err := exact.Of(m.Rest)
	if rest.Sign() < 0 {
		err = api.ErrRange
	}
	if err != api.OK {
		return tube{}, api.Fault{Code: err, At: len(c)}
	}
	return tube{c, rest}, api.Fault{}
}

// readBoth is read of two models.
func readBoth(a, b Model) (p, q tube, fault api.Fault) {
	p, fault = read(a)
	if fault.Code != api.OK {
		return tube{}, tube{}, fault
	}
	q, fault = read(b)
	return p, q, fault
}

// plus is all sums of a function of a and one of b.
func (a tube) plus(b tube) tube {
	short, long := a.c, b.c
	if len(short) > len(long) {
		short, long = long, short
	}
	c := slices.Clone(long)
	for i, v := range short {
		c[i] = c[i].Add(v)
	}
	return tube{c, a.rest.Add(b.rest)}
}

// times has all products of a function of a and one of b: as t is from -1 to 1, a
// polynomial is nowhere farther from 0 than its reach.
func (a tube) times(b tube) tube {
	rest := reach(a.c).Mul(b.rest).Add(reach(b.c).Mul(a.rest)).Add(a.rest.Mul(b.rest))
	return tube{product(a.c, b.c), rest}
}

// product is that of both polynomials.
func product(p, q []exact.Num) []exact.Num {
	if len(p) == 0 || len(q) == 0 {
		return nil
	}
	c := make([]exact.Num, len(p)+len(q)-1)
	for i := range len(p) {
		for k := range len(q) {
			c[i+k] = c[i+k].Add(p[i].Mul(q[k]))
		}
	}
	return c
}

// under has all that lies under a function of a, from 0 to t: as t is from -1 to 1, the
// rest brings no more than itself.
func (a tube) under() tube {
	c := make([]exact.Num, len(a.c)+1)
	for i := range len(a.c) {
		c[i+1], _ = a.c[i].Quo(exact.Int(i + 1))
	}
	return tube{c, a.rest}
}

// at is the value of the polynomial at t.
func (a tube) at(t exact.Num) exact.Num {
	var v exact.Num
	for _, c := range slices.Backward(a.c) {
		v = v.Mul(t).Add(c)
	}
	return v
}

// reach is the sum of all entries of c without signs.
func reach(c []exact.Num) exact.Num {
	var sum exact.Num
	for _, v := range c {
		sum = sum.Add(nums.Size(v))
	}
	return sum
}

// made is a as a Model of such a degree at most; what is rounded or left out is added
// to the rest.
func (a tube) made(degree int) (Model, api.Fault) {
	n := min(len(a.c), degree+1)
	c, rest := make([]float64, n), a.rest
	for i := range n {
		c[i], _ = a.c[i].Float(api.Near)
		v, err := exact.Of(c[i])
		if err != api.OK {
			return Model{}, api.Fault{Code: api.ErrRange, At: i}
		}
		rest = rest.Add(nums.Size(a.c[i].Sub(v)))
	}
	far, _ := rest.Add(reach(a.c[n:])).Float(api.Up)
	if math.IsInf(far, 0) {
		return Model{}, api.Fault{Code: api.ErrRange, At: n}
	}
	return Model{C: c, Rest: far}, api.Fault{}
}
