// Package nums reads floats as the fractions they are, and has what is done with
// lists of these.
package nums

import (
	"enclosure/api"
	"enclosure/exact"
)

// Just is what x is, which is finite.
func Just(x float64) exact.Num {
	v, _ := exact.Of(x)
	return v
}

// Read is just what the entries of l are; ErrNaN, At its number, at the first one that
// isn't finite.
func Read(l []float64) ([]exact.Num, api.Fault) {
	read := make([]exact.Num, len(l))
	for i, x := range l {
		v, err := exact.Of(x)
		if err != api.OK {
			return nil, api.Fault{Code: err, At: i}
		}
		read[i] = v
	}
	return read, api.Fault{}
}

// Total is the sum of all of l.
func Total(l []exact.Num) exact.Num {
	var sum exact.Num
	for _, v := range l {
		sum = sum.Add(v)
	}
	return sum
}

// Size is v without its sign.
func Size(v exact.Num) exact.Num {
	if v.Sign() < 0 {
		return v.Neg()
	}
	return v
}
