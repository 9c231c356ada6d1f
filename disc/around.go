package disc

import (
	"math"
	"slices"

	"enclosure/api"
	"enclosure/exact"
	"enclosure/twofold"
)

// Discs is discs around what is near the roots of a polynomial: each root lies in one
// of them.
func Discs(p []complex128, near []complex128) ([]api.Disc, api.Fault) {
	if fault := faultOf(p); fault.Code != api.OK {
		return nil, fault
	}
	if len(near) != len(p)-1 {
		return nil, api.Fault{Code: api.ErrShape}
	}
	if fault := notFinite(near); fault.Code != api.OK {
		return nil, fault
	}
	var l []api.Disc
	for i, z := range near {
		others := slices.Delete(slices.Clone(near), i, i+1)
		if slices.Contains(others, z) {
			return nil, api.Fault{Code: api.ErrForm, At: i}
		}
		r := radius(p, z, others)
		if math.IsInf(r, 0) {
			return nil, api.Fault{Code: api.ErrRange, At: i}
		}
		l = append(l, api.Disc{Mid: z, R: r})
	}
	return l, api.Fault{}
}

// radius is what Smith's theorem asks of the disc around z, where others are around
// the others, rounded Up.
func radius(p []complex128, z complex128, others []complex128) float64 {
	at, n := twofold.Of(z), len(p)-1
	low := twofold.Of(p[n]).Norm()
	for _, w := range others {
		low = low.Mul(at.Sub(twofold.Of(w)).Norm())
	}
	square, _ := valueAt(p, at).Norm().Mul(exact.Int(n * n)).Quo(low)
	r, _ := square.Root(api.Up)
	return r
}

// Apart: do no two of the discs have a number in common?
func Apart(l []api.Disc) (bool, api.Fault) {
	if len(l) > api.MaxPoints {
		return false, api.Fault{Code: api.ErrMany}
	}
	for i, d := range l {
		if err := Check(d); err != api.OK {
			return false, api.Fault{Code: err, At: i}
		}
	}
	for i, d := range l {
		if slices.ContainsFunc(l[:i], func(e api.Disc) bool { return !apart(d, e) }) {
			return false, api.Fault{}
		}
	}
	return true, api.Fault{}
}
