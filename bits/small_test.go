package bits_test

import (
	"math"
	"testing"

	"enclosure/api"
	"enclosure/bits"
)

// value is what the code b, without a sign, is in a format, as the chapter's words say it; where it would be infinite, what it would be if the exponents went on.
func value(b uint64, f api.Form) float64 {
	exp := int(b >> f.Frac)
	frac := float64(b&(1<<f.Frac-1)) / float64(int(1)<<f.Frac)
	less := 1<<(f.Exp-1) - 1
	if exp == 0 {
		return math.Ldexp(frac, 1-less)
	}
	return math.Ldexp(1+frac, exp-less)
}

// forms: all small formats.
func forms() []api.Form {
	var l []api.Form
	for exp := 2; exp <= 8; exp++ {
		for frac := 1; frac <= 23; frac++ {
			l = append(l, api.Form{Exp: exp, Frac: frac})
		}
	}
	return l
}

// codes: those of the finite ones of a format, without a sign: all, or the corners and some between.
func codes(f api.Form) []uint64 {
	end := uint64(1<<f.Exp-1) << f.Frac
	var l []uint64
	if end <= 4096 {
		for b := range end {
			l = append(l, b)
		}
		return l
	}
	one := uint64(1) << f.Frac
	for _, middle := range []uint64{one, 2 * one, end / 2, end - one} {
		for d := range uint64(6) {
			l = append(l, middle-d, middle+d)
		}
	}
	for d := range uint64(6) {
		l = append(l, d, end-1-d)
	}
	next := stream()
	for range 200 {
		l = append(l, next()%end)
	}
	return l
}

// packs holds Pack of x and of -x against the bits of x.
func packs(t *testing.T, x float64, f api.Form, want uint64) {
	t.Helper()
	if got, err := bits.Pack(x, f); err != api.OK || got != want {
		t.Errorf("Pack(%g, %v): %#x %d, want %#x", x, f, got, err, want)
	}
	want |= 1 << (f.Exp + f.Frac)
	if got, err := bits.Pack(-x, f); err != api.OK || got != want {
		t.Errorf("Pack(%g, %v): %#x %d, want %#x", -x, f, got, err, want)
	}
}

func TestPackAroundHalves(t *testing.T) {
	for _, f := range forms() {
		for _, b := range codes(f) {
			x := value(b, f)
			half := x + (value(b+1, f)-x)/2 // of the greatest one: to where the next one would be
			packs(t, x, f, b)
			packs(t, math.Nextafter(half, 0), f, b)
			packs(t, half, f, b+b%2)
			packs(t, math.Nextafter(half, math.Inf(1)), f, b+1)
		}
	}
}

func TestPackOfCorners(t *testing.T) {
	for _, f := range forms() {
		infinite := uint64(1<<f.Exp-1) << f.Frac
		packs(t, 0, f, 0)
		packs(t, 5e-324, f, 0)
		packs(t, 0x1p-1022, f, 0)
		packs(t, math.MaxFloat64, f, infinite)
		packs(t, math.Inf(1), f, infinite)
		minus, err := bits.Pack(math.Copysign(0, -1), f)
		if minus != 1<<(f.Exp+f.Frac) || err != api.OK {
			t.Errorf("Pack(-0, %v): %#x %d", f, minus, err)
		}
		for _, b := range []uint64{0x7ff<<52 | 1, 0xfff<<52 | 1, 0x7ff<<52 | 1<<51, 1<<64 - 1} {
			got, err := bits.Pack(math.Float64frombits(b), f)
			if got != infinite|1<<(f.Frac-1) || err != api.OK {
				t.Errorf("Pack of no number %#x, %v: %#x %d", b, f, got, err)
			}
		}
	}
}

func TestPackAsTheLibrary(t *testing.T) {
	f := api.Form{Exp: 8, Frac: 23}
	next := stream()
	l := samples()
	for range 50000 {
		l = append(l, math.Float64frombits(next()&^(0x7ff<<52)|(0x360+next()%0x130)<<52))
	}
	for _, x := range l {
		got, err := bits.Pack(x, f)
		if want := math.Float32bits(float32(x)); !math.IsNaN(x) && (got != uint64(want) || err != api.OK) {
			t.Errorf("Pack(%g): %#x %d, want %#x", x, got, err, want)
		}
	}
}

func TestUnpack(t *testing.T) {
	for _, f := range forms() {
		sign := uint64(1) << (f.Exp + f.Frac)
		for _, b := range codes(f) {
			if x, err := bits.Unpack(b, f); err != api.OK || !alike(x, value(b, f)) {
				t.Errorf("Unpack(%#x, %v): %g %d, want %g", b, f, x, err, value(b, f))
			}
			if x, err := bits.Unpack(b|sign, f); err != api.OK || !alike(x, -value(b, f)) {
				t.Errorf("Unpack(%#x, %v): %g %d, want %g", b|sign, f, x, err, -value(b, f))
			}
		}
		infinite := uint64(1<<f.Exp-1) << f.Frac
		for _, c := range []struct {
			b    uint64
			want float64
		}{
			{infinite, math.Inf(1)}, {infinite | sign, math.Inf(-1)},
			{infinite + 1, math.NaN()}, {sign - 1, math.NaN()}, {2*sign - 1, math.NaN()},
		} {
			if x, err := bits.Unpack(c.b, f); err != api.OK || !alike(x, c.want) {
				t.Errorf("Unpack(%#x, %v): %g %d, want %g", c.b, f, x, err, c.want)
			}
		}
		for _, b := range []uint64{2 * sign, 2*sign + 1, 1 << 63, math.MaxUint64} {
			if x, err := bits.Unpack(b, f); err != api.ErrRange || x != 0 {
				t.Errorf("Unpack(%#x, %v): %g %d, want ErrRange", b, f, x, err)
			}
		}
	}
}

func TestNoFormat(t *testing.T) {
	for _, f := range []api.Form{
		{}, {Exp: 1, Frac: 10}, {Exp: 9, Frac: 10}, {Exp: 5, Frac: 0}, {Exp: 5, Frac: 24}, {Exp: 11, Frac: 52},
		{Exp: -5, Frac: 10}, {Exp: 5, Frac: -10}, {Exp: math.MinInt, Frac: math.MaxInt}, {Exp: 5, Frac: math.MaxInt}, {Exp: math.MaxInt, Frac: 5},
	} {
		for _, x := range []float64{0, 1, math.NaN(), math.Inf(-1)} {
			if b, err := bits.Pack(x, f); b != 0 || err != api.ErrForm {
				t.Errorf("Pack(%g, %v): %#x %d, want ErrForm", x, f, b, err)
			}
		}
		for _, b := range []uint64{0, 1, math.MaxUint64} {
			if x, err := bits.Unpack(b, f); x != 0 || err != api.ErrForm {
				t.Errorf("Unpack(%#x, %v): %g %d, want ErrForm", b, f, x, err)
			}
		}
	}
}
