package nums_test

import (
	"math"
	"math/big"
	"slices"
	"testing"

	"enclosure/api"
	"enclosure/exact"
	"enclosure/nums"
)

// floats of all sizes.
func floats() []float64 {
	const least, most = math.SmallestNonzeroFloat64, math.MaxFloat64
	return []float64{0, math.Copysign(0, -1), 1, -1, 0.1, -3, 1 + 0x1p-52, most, -most, least, -least, 0x1p-600, 1e300}
}

func rat(x float64) *big.Rat { return new(big.Rat).SetFloat64(x) }

// is fails unless v is just want.
func is(t *testing.T, what string, v exact.Num, want *big.Rat) {
	t.Helper()
	if r, _ := new(big.Rat).SetString(v.Text()); r.Cmp(want) != 0 {
		t.Errorf("%s: %s, want %s", what, v.Text(), want)
	}
}

func TestReadsJustWhatFloatsAre(t *testing.T) {
	l := floats()
	v, fault := nums.Read(l)
	if fault != (api.Fault{}) || len(v) != len(l) {
		t.Fatalf("Read: %d of %d, %v", len(v), len(l), fault)
	}
	for i, x := range l {
		is(t, "Read", v[i], rat(x))
		is(t, "Just", nums.Just(x), rat(x))
	}
	for _, l := range [][]float64{nil, {}} {
		if v, fault := nums.Read(l); len(v) != 0 || fault != (api.Fault{}) {
			t.Errorf("Read of nothing: %v %v", v, fault)
		}
	}
}

func TestReadTellsOfTheFirst(t *testing.T) {
	for _, x := range []float64{math.NaN(), math.Inf(1), math.Inf(-1)} {
		for i := range 5 {
			l := slices.Repeat([]float64{7}, i)
			l = append(l, x, 1, x)
			if v, fault := nums.Read(l); v != nil || fault != (api.Fault{Code: api.ErrNaN, At: i}) {
				t.Errorf("Read of %v: %v %v", l, v, fault)
			}
		}
	}
}

func TestTotalAndSize(t *testing.T) {
	is(t, "Total of nothing", nums.Total(nil), new(big.Rat))
	sum := new(big.Rat)
	for i, x := range floats() {
		sum.Add(sum, rat(x))
		v, _ := nums.Read(floats()[:i+1])
		is(t, "Total", nums.Total(v), sum)
		is(t, "Size", nums.Size(v[i]), rat(math.Abs(x)))
	}
}
