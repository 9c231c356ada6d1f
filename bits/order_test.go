package bits_test

import (
	"math"
	"slices"
	"testing"

	"enclosure/bits"
)

func TestNeighbours(t *testing.T) {
	minus := math.Copysign(0, -1)
	for _, c := range []struct{ x, prev, next float64 }{
		{1, 1 - 0x1p-53, 1 + 0x1p-52},
		{-1, -1 - 0x1p-52, -1 + 0x1p-53},
		{0.1, 0.1 - 0x1p-56, 0.1 + 0x1p-56},
		{0, -5e-324, 5e-324},
		{minus, -5e-324, 5e-324},
		{5e-324, 0, 1e-323},
		{-5e-324, -1e-323, minus},
		{0x1p-1022, 0x1p-1022 - 0x1p-1074, 0x1p-1022 + 0x1p-1074},
		{math.MaxFloat64, 0x1.ffffffffffffep1023, math.Inf(1)},
		{-math.MaxFloat64, math.Inf(-1), -0x1.ffffffffffffep1023},
		{math.Inf(1), math.MaxFloat64, math.Inf(1)},
		{math.Inf(-1), math.Inf(-1), -math.MaxFloat64},
		{math.NaN(), math.NaN(), math.NaN()},
		{math.Float64frombits(1<<64 - 1), math.NaN(), math.NaN()},
		{math.Float64frombits(1<<63 - 1), math.NaN(), math.NaN()},
		{math.Float64frombits(0xfff<<52 | 1), math.NaN(), math.NaN()},
	} {
		if got := bits.Next(c.x); !alike(got, c.next) {
			t.Errorf("Next of %g: %g, want %g", c.x, got, c.next)
		}
		if got := bits.Prev(c.x); !alike(got, c.prev) {
			t.Errorf("Prev of %g: %g, want %g", c.x, got, c.prev)
		}
	}
}

func TestNothingLiesBetweenNeighbours(t *testing.T) {
	for _, x := range samples() {
		if got, want := bits.Next(x), math.Nextafter(x, math.Inf(1)); !alike(got, want) {
			t.Errorf("Next of %g: %g, want %g", x, got, want)
		}
		if got, want := bits.Prev(x), math.Nextafter(x, math.Inf(-1)); !alike(got, want) {
			t.Errorf("Prev of %g: %g, want %g", x, got, want)
		}
	}
}

func TestUlp(t *testing.T) {
	for _, c := range []struct{ x, want float64 }{
		{1, 0x1p-52}, {-1, 0x1p-52}, {math.Nextafter(2, 1), 0x1p-52}, {2, 0x1p-51}, {0.1, 0x1p-56},
		{0, 5e-324}, {math.Copysign(0, -1), 5e-324}, {5e-324, 5e-324}, {-5e-324, 5e-324},
		{0x1p-1022, 5e-324}, {0x1.fffffp-1022, 5e-324}, {0x1p-1021, 1e-323},
		{0x1p-970, 0x1p-1022}, {0x1p-971, 0x1p-1023},
		{math.MaxFloat64, 0x1p971}, {-math.MaxFloat64, 0x1p971},
		{math.Inf(1), 0}, {math.Inf(-1), 0}, {math.NaN(), 0},
	} {
		if got := bits.Ulp(c.x); got != c.want {
			t.Errorf("Ulp of %g: %g, want %g", c.x, got, c.want)
		}
	}
	for _, x := range samples() {
		x = math.Abs(x)
		if x < math.MaxFloat64 && bits.Ulp(x) != math.Nextafter(x, math.Inf(1))-x {
			t.Errorf("Ulp of %g: %g", x, bits.Ulp(x))
		}
	}
}

func TestKey(t *testing.T) {
	for _, c := range []struct {
		x    float64
		want int
	}{
		{0, 0}, {math.Copysign(0, -1), -1}, {5e-324, 1}, {-5e-324, -2},
		{1, 0x3ff << 52}, {-1, -1 - 0x3ff<<52},
		{math.Inf(1), 0x7ff << 52}, {math.Inf(-1), -1 - 0x7ff<<52},
		{math.NaN(), math.MaxInt}, {math.Float64frombits(1<<64 - 1), math.MaxInt}, {math.Float64frombits(0x7ff<<52 | 1), math.MaxInt}, {math.Float64frombits(0xfff<<52 | 1), math.MaxInt},
	} {
		if got := bits.Key(c.x); got != c.want {
			t.Errorf("Key of %g: %d, want %d", c.x, got, c.want)
		}
	}
}

func TestKeysStandAsFloatsDo(t *testing.T) {
	l := slices.DeleteFunc(samples(), math.IsNaN)
	slices.SortFunc(l, func(x, y float64) int {
		switch {
		case x < y:
			return -1
		case x > y:
			return 1
		case math.Signbit(x) == math.Signbit(y):
			return 0
		case math.Signbit(x):
			return -1
		}
		return 1
	})
	for i := 1; i < len(l); i++ {
		before, behind := bits.Key(l[i-1]), bits.Key(l[i])
		if alike(l[i-1], l[i]) != (before == behind) || before > behind {
			t.Errorf("keys of %g and %g: %d, %d", l[i-1], l[i], before, behind)
		}
	}
}
