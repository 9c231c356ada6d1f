package bits_test

import (
	"math"
	"math/big"
	"testing"

	"enclosure/bits"
)

// made is m times 2 to the power of e, rounded by the library's long floats.
func made(m, e int) float64 {
	x := new(big.Float).SetMantExp(new(big.Float).SetInt64(int64(m)), e)
	y, _ := x.Float64()
	return y
}

func TestMake(t *testing.T) {
	minus := math.Copysign(0, -1)
	for _, c := range []struct {
		m, e int
		want float64
	}{
		{0, 0, 0}, {0, 5000, 0}, {0, -5000, 0},
		{3, -1, 1.5}, {-5, 3, -40}, {3602879701896397, -55, 0.1},
		// Halves, to the even one of two.
		{1<<53 + 1, 0, 1 << 53}, {1<<53 + 3, 0, 1<<53 + 4}, {-(1<<53 + 1), 0, -(1 << 53)},
		{1<<54 + 2, -1, 1 << 53}, {1<<54 + 3, -1, 1<<53 + 2},
		{1<<54 - 1, 0, 1 << 54},
		{math.MaxInt, 0, 0x1p63}, {math.MinInt, 0, -0x1p63}, {math.MinInt, -63, -1},
		// What has no leading one.
		{1, -1074, 5e-324}, {1, -1075, 0}, {-1, -1075, minus}, {3, -1076, 5e-324}, {3, -1075, 1e-323}, {5, -1075, 1e-323}, {7, -1075, 2e-323},
		{1<<53 - 1, -1075, 0x1p-1022}, {1<<52 - 1, -1074, 0x1p-1022 - 0x1p-1074}, {1, -1022, 0x1p-1022},
		{math.MaxInt, -1138, 0}, {math.MaxInt, -1137, 5e-324}, {1<<62 + 1, -1137, 5e-324}, {1 << 62, -1137, 0}, {math.MinInt, -1138, minus}, {math.MinInt, -1137, -5e-324}, {1, -1140, 0}, {math.MinInt, -1200, minus},
		// From 2^1024 - 2^970 on it is infinite.
		{1<<53 - 1, 971, math.MaxFloat64}, {1<<54 - 1, 970, math.Inf(1)}, {1<<62 - 1<<8 - 1, 962, math.MaxFloat64}, {1<<62 - 1<<8, 962, math.Inf(1)},
		{-(1<<62 - 1<<8 - 1), 962, -math.MaxFloat64}, {-(1<<62 - 1<<8), 962, math.Inf(-1)},
		{1, 1023, 0x1p1023}, {1, 1024, math.Inf(1)}, {-1, 1024, math.Inf(-1)},
		// However far e is.
		{1, 5000, math.Inf(1)}, {-1, math.MaxInt, math.Inf(-1)}, {1, math.MinInt, 0}, {-1, math.MinInt, minus},
		{math.MinInt, math.MaxInt, math.Inf(-1)}, {math.MaxInt, math.MinInt, 0}, {math.MaxInt, 100000, math.Inf(1)}, {0, math.MaxInt, 0}, {0, math.MinInt, 0},
	} {
		if got := bits.Make(c.m, c.e); !alike(got, c.want) {
			t.Errorf("Make(%d, %d): %g, want %g", c.m, c.e, got, c.want)
		}
	}
}

func TestMakeIsTheNearest(t *testing.T) {
	next := stream()
	for range 50000 {
		word := next()
		m := int(next()) >> (word % 64)
		e := int(word>>6%2400) - 1250
		if word>>40%4 == 0 { // many bits that are alike come near to halves
			m |= 1<<(word>>42%40) - 1
		}
		if got, want := bits.Make(m, e), made(m, e); !alike(got, want) {
			t.Errorf("Make(%d, %d): %g, want %g", m, e, got, want)
		}
	}
}

func TestMakeAroundHalves(t *testing.T) {
	for _, x := range samples() {
		m, e, err := bits.Whole(x)
		if err != 0 || m == 0 {
			continue
		}
		for m < 1<<60 && m > -1<<60 {
			m, e = 2*m, e-1
		}
		half := 1 << 7 // of the last place of what has 61 bits, where there are 53
		for _, d := range []int{-half - 1, -half, 1 - half, -1, 0, 1, half - 1, half, half + 1} {
			if got, want := bits.Make(m+d, e), made(m+d, e); !alike(got, want) {
				t.Errorf("Make(%d, %d): %g, want %g", m+d, e, got, want)
			}
		}
	}
}

func TestMakeIsBackOfWhole(t *testing.T) {
	for _, x := range samples() {
		m, e, err := bits.Whole(x)
		if err == 0 && bits.Make(m, e) != x {
			t.Errorf("Make(%d, %d): %g, want %g", m, e, bits.Make(m, e), x)
		}
	}
}
