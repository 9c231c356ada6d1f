package disc

import (
	"enclosure/api"
	"enclosure/twofold"
)

// Value is what a polynomial is at z, rounded.
func Value(p []complex128, z complex128) (complex128, api.Fault) {
	if fault := faultOf(p); fault.Code != api.OK {
		return 0, fault
	}
	if !finite(z) {
		return 0, api.Fault{Code: api.ErrNaN, At: len(p)}
	}
	return valueAt(p, twofold.Of(z)).Float(), api.Fault{}
}

// faultOf tells what is wrong with a polynomial.
func faultOf(p []complex128) api.Fault {
	if len(p) < 2 || len(p) > api.MaxDegree+1 {
		return api.Fault{Code: api.ErrMany}
	}
	if fault := notFinite(p); fault.Code != api.OK {
		return fault
	}
	if p[len(p)-1] == 0 {
		return api.Fault{Code: api.ErrZero, At: len(p) - 1}
	}
	return api.Fault{}
}

// notFinite tells the first number that isn't finite.
func notFinite(l []complex128) api.Fault {
	for i, z := range l {
		if !finite(z) {
			return api.Fault{Code: api.ErrNaN, At: i}
		}
	}
	return api.Fault{}
}

// valueAt is just what p is at z.
func valueAt(p []complex128, z twofold.Num) twofold.Num {
	var v twofold.Num
	for i := len(p) - 1; i >= 0; i-- {
		v = v.Mul(z).Add(twofold.Of(p[i]))
	}
	return v
}
