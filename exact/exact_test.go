package exact_test

import (
	"math"
	"math/big"
	"testing"

	"enclosure/api"
	"enclosure/exact"
)

func TestInt(t *testing.T) {
	for _, n := range []int{0, 1, -1, 7, -10, 1 << 32, math.MaxInt, math.MinInt, math.MinInt + 1} {
		x := exact.Int(n)
		if want := big.NewInt(int64(n)); x.Text() != want.String() || x.Sign() != want.Sign() {
			t.Errorf("Int(%d): %s, %d", n, x.Text(), x.Sign())
		}
	}
}

func TestOver(t *testing.T) {
	l := []int{0, 1, -1, 2, 3, -4, 6, 10, -15, 1 << 40, 3 << 40, math.MaxInt, math.MinInt, math.MinInt + 1, math.MaxInt - 1}
	for _, a := range l {
		for _, b := range l {
			x, err := exact.Over(a, b)
			if b == 0 {
				zero(t, "Over by 0", x)
				if err != api.ErrZero {
					t.Errorf("Over(%d, 0): %d, want ErrZero", a, err)
				}
				continue
			}
			if want := ratText(big.NewRat(int64(a), int64(b))); x.Text() != want || err != api.OK {
				t.Errorf("Over(%d, %d): %s, %d, want %s", a, b, x.Text(), err, want)
			}
		}
	}
}

func TestTwo(t *testing.T) {
	for _, e := range []int{0, 1, -1, 63, 64, 65, -63, -64, -65, 1074, -1074, 4999, 5000, -5000} {
		x, err := exact.Two(e)
		if want := ratText(twoTo(e)); x.Text() != want || err != api.OK {
			t.Errorf("Two(%d): %s, %d, want %s", e, x.Text(), err, want)
		}
	}
	for _, e := range []int{5001, -5001, math.MaxInt, math.MinInt} {
		x, err := exact.Two(e)
		zero(t, "Two", x)
		if err != api.ErrRange {
			t.Errorf("Two(%d): %d, want ErrRange", e, err)
		}
	}
}

func TestTen(t *testing.T) {
	for _, e := range []int{0, 1, -1, 2, 18, 19, 20, -19, 308, -324, 1999, 2000, -2000} {
		x, err := exact.Ten(e)
		want := new(big.Rat).SetInt(new(big.Int).Exp(big.NewInt(10), big.NewInt(int64(max(e, -e))), nil))
		if e < 0 {
			want.Inv(want)
		}
		if x.Text() != ratText(want) || err != api.OK {
			t.Errorf("Ten(%d): %s, %d", e, x.Text(), err)
		}
	}
	for _, e := range []int{2001, -2001, math.MaxInt, math.MinInt} {
		x, err := exact.Ten(e)
		zero(t, "Ten", x)
		if err != api.ErrRange {
			t.Errorf("Ten(%d): %d, want ErrRange", e, err)
		}
	}
}

func TestOf(t *testing.T) {
	for _, f := range floats() {
		x, err := exact.Of(f)
		if want := ratText(rat(f)); x.Text() != want || err != api.OK {
			t.Errorf("Of(%g): %s, %d, want %s", f, x.Text(), err, want)
		}
	}
	for _, f := range []float64{math.Inf(1), math.Inf(-1), math.NaN(), math.Float64frombits(0xfff<<52 | 1)} {
		x, err := exact.Of(f)
		zero(t, "Of", x)
		if err != api.ErrNaN {
			t.Errorf("Of(%g): %d, want ErrNaN", f, err)
		}
	}
}
