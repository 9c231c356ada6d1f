package cplx

import (
	"math"
	"testing"

	"enclosure/api"
	"enclosure/exact"
)

// No root lies just halfway between two floats; so that halves are rounded well is
// shown of fractions.
func TestNearestIsRounded(t *testing.T) {
	tiny, _ := exact.Two(-1200)
	for _, x := range []float64{0, math.SmallestNonzeroFloat64, 5 * math.SmallestNonzeroFloat64, 0x1p-1022, 0.1, 1, 1 + 0x1p-52, 1.5, 7e200, math.MaxFloat64} {
		v, _ := exact.Of(x)
		for _, y := range []exact.Num{v, middle(x)} {
			for _, z := range []exact.Num{y, y.Add(tiny), y.Sub(tiny)} {
				want, _ := z.Float(api.Near)
				if got := nearest(z.Cmp); z.Sign() >= 0 && got != want {
					t.Errorf("nearest to %v, or halfway on, or nearby: %g, want %g", x, got, want)
				}
			}
		}
	}
}
