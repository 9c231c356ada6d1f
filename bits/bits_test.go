package bits_test

import (
	"math"
	"math/big"
	"testing"

	"enclosure/api"
	"enclosure/bits"
)

// alike: are two floats the same to the bit, or both no number?
func alike(x, y float64) bool {
	return math.Float64bits(x) == math.Float64bits(y) || math.IsNaN(x) && math.IsNaN(y)
}

// stream answers words that are spread over all bits, the same ones in each run.
func stream() func() uint64 {
	state := uint64(1)
	return func() uint64 {
		state += 0x9e3779b97f4a7c15
		z := state
		z = (z ^ z>>30) * 0xbf58476d1ce4e5b9
		z = (z ^ z>>27) * 0x94d049bb133111eb
		return z ^ z>>31
	}
}

// samples: the corners of the floats, of both signs, and many between.
func samples() []float64 {
	var l []float64
	corners := []uint64{0, 1, 2, 3, 1<<51 - 1, 1 << 51, 1<<52 - 2, 1<<52 - 1}
	for _, exp := range []uint64{0, 1, 2, 3, 51, 52, 53, 54, 1022, 1023, 1024, 1074, 1075, 1076, 2045, 2046, 2047} {
		for _, frac := range corners {
			x := math.Float64frombits(exp<<52 | frac)
			l = append(l, x, math.Copysign(x, -1))
		}
	}
	next := stream()
	for range 20000 {
		l = append(l, math.Float64frombits(next()))
	}
	return l
}

func TestKind(t *testing.T) {
	for _, c := range []struct {
		b    uint64
		want int
	}{
		{0, api.Zero}, {1 << 63, api.Zero},
		{1, api.Sub}, {1<<63 | 1, api.Sub}, {1<<52 - 1, api.Sub}, {1 << 51, api.Sub},
		{1 << 52, api.Normal}, {1<<63 | 1<<52, api.Normal}, {0x3ff << 52, api.Normal}, {0x7ff<<52 - 1, api.Normal},
		{0x7ff << 52, api.Inf}, {0xfff << 52, api.Inf},
		{0x7ff<<52 | 1, api.NaN}, {0x7ff<<52 | 1<<51, api.NaN}, {1<<63 - 1, api.NaN}, {1<<64 - 1, api.NaN}, {0xfff<<52 | 1, api.NaN},
	} {
		if got := bits.Kind(math.Float64frombits(c.b)); got != c.want {
			t.Errorf("Kind of %#x: %d, want %d", c.b, got, c.want)
		}
	}
}

func TestSplit(t *testing.T) {
	for _, c := range []struct {
		x    float64
		neg  bool
		exp  int
		frac uint64
	}{
		{0, false, 0, 0},
		{math.Copysign(0, -1), true, 0, 0},
		{1, false, 1023, 0},
		{-1.5, true, 1023, 1 << 51},
		{0.1, false, 1019, 0x999999999999a},
		{5e-324, false, 0, 1},
		{-0x1p-1022, true, 1, 0},
		{math.MaxFloat64, false, 2046, 1<<52 - 1},
		{math.Inf(-1), true, 2047, 0},
		{math.Float64frombits(0xfff<<52 | 5), true, 2047, 5},
	} {
		neg, exp, frac := bits.Split(c.x)
		if neg != c.neg || exp != c.exp || frac != c.frac {
			t.Errorf("Split of %g: %t %d %#x, want %t %d %#x", c.x, neg, exp, frac, c.neg, c.exp, c.frac)
		}
	}
}

func TestJoinIsBackOfSplit(t *testing.T) {
	for _, x := range samples() {
		y, err := bits.Join(bits.Split(x))
		if err != api.OK || math.Float64bits(x) != math.Float64bits(y) {
			t.Errorf("Join of Split of %#x: %#x, %d", math.Float64bits(x), math.Float64bits(y), err)
		}
	}
}

func TestJoinOfWrongFields(t *testing.T) {
	for _, c := range []struct {
		exp  int
		frac uint64
	}{
		{-1, 0}, {2048, 0}, {math.MinInt, 0}, {math.MaxInt, 0}, {4096 + 1023, 0},
		{1023, 1 << 52}, {0, 1 << 52}, {2047, 1 << 63}, {1023, math.MaxUint64}, {-1, 1 << 52},
	} {
		for _, neg := range []bool{false, true} {
			x, err := bits.Join(neg, c.exp, c.frac)
			if err != api.ErrRange || x != 0 {
				t.Errorf("Join(%t, %d, %#x): %g, %d, want ErrRange", neg, c.exp, c.frac, x, err)
			}
		}
	}
}

func TestWhole(t *testing.T) {
	for _, c := range []struct {
		x    float64
		m, e int
		err  api.Errno
	}{
		{0, 0, 0, api.OK},
		{math.Copysign(0, -1), 0, 0, api.OK},
		{1, 1, 0, api.OK},
		{-6, -3, 1, api.OK},
		{0.1, 3602879701896397, -55, api.OK},
		{5e-324, 1, -1074, api.OK},
		{-0x1p-1022, -1, -1022, api.OK},
		{math.MaxFloat64, 1<<53 - 1, 971, api.OK},
		{0x1p1023, 1, 1023, api.OK},
		{math.Inf(1), 0, 0, api.ErrNaN},
		{math.Inf(-1), 0, 0, api.ErrNaN},
		{math.NaN(), 0, 0, api.ErrNaN},
	} {
		m, e, err := bits.Whole(c.x)
		if m != c.m || e != c.e || err != c.err {
			t.Errorf("Whole of %g: %d %d %d, want %d %d %d", c.x, m, e, err, c.m, c.e, c.err)
		}
	}
}

func TestWholeIsOddAndJustX(t *testing.T) {
	for _, x := range samples() {
		if math.IsNaN(x) || math.IsInf(x, 0) || x == 0 {
			continue
		}
		m, e, err := bits.Whole(x)
		y := new(big.Float).SetMantExp(new(big.Float).SetInt64(int64(m)), e)
		if err != api.OK || m%2 == 0 || y.Cmp(big.NewFloat(x)) != 0 {
			t.Errorf("Whole of %g: %d %d %d", x, m, e, err)
		}
	}
}
