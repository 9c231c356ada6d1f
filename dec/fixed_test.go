package dec_test

import (
	"math"
	"math/big"
	"strconv"
	"strings"
	"testing"

	"enclosure/api"
	"enclosure/dec"
)

func TestFixed(t *testing.T) {
	for _, c := range []struct {
		x    float64
		n    int
		want string
	}{
		{0, 0, "0"}, {0, 3, "0.000"}, {minus, 0, "-0"}, {minus, 2, "-0.00"}, {0, 1200, "0." + strings.Repeat("0", 1200)},
		{1, 0, "1"}, {-1, 1, "-1.0"}, {10, 0, "10"}, {1234.5678, 2, "1234.57"}, {-0.001, 2, "-0.00"}, {0.001, 2, "0.00"}, {0.1, 0, "0"}, {0.1, 1, "0.1"}, {0.1, 20, "0.10000000000000000555"},
		// Of two as near the even one.
		{0.5, 0, "0"}, {1.5, 0, "2"}, {2.5, 0, "2"}, {3.5, 0, "4"}, {-0.5, 0, "-0"}, {-2.5, 0, "-2"}, {0.25, 1, "0.2"}, {0.75, 1, "0.8"}, {0.125, 2, "0.12"}, {0.375, 2, "0.38"}, {2.5, 1, "2.5"}, {2.5, 2, "2.50"},
		{math.Nextafter(2.5, 3), 0, "3"}, {math.Nextafter(2.5, 2), 0, "2"}, {math.Nextafter(0.5, 1), 0, "1"}, {math.Nextafter(1.5, 1), 0, "1"},
		// What is carried, from word to word, too.
		{9.5, 0, "10"}, {99.96, 1, "100.0"}, {0.999, 2, "1.00"}, {999999999.5, 0, "1000000000"}, {999999999999999.5, 0, "1000000000000000"}, {0.9999999999999999, 15, "1.000000000000000"}, {0.9999999999999999, 16, "0.9999999999999999"}, {-0.96, 1, "-1.0"},
		{1e22, 0, "10000000000000000000000"}, {1e22, 1, "10000000000000000000000.0"},
		{least, 0, "0"}, {least, 323, "0." + strings.Repeat("0", 323)}, {least, 324, "0." + strings.Repeat("0", 323) + "5"}, {-least, 325, "-0." + strings.Repeat("0", 323) + "49"},
		{inf, 0, "inf"}, {-inf, 1200, "-inf"}, {math.NaN(), 7, "nan"}, {math.Float64frombits(1<<64 - 1), 7, "nan"},
	} {
		if got, err := dec.Fixed(c.x, c.n); got != c.want || err != api.OK {
			t.Errorf("Fixed(%g, %d): %s, %d, want %s", c.x, c.n, got, err, c.want)
		}
	}
}

func TestFixedOfWrongPlaces(t *testing.T) {
	for _, n := range []int{-1, api.MaxDigits + 1, -1000, 5000, math.MaxInt, math.MinInt} {
		for _, x := range []float64{0, minus, 1.5, -least, math.MaxFloat64, inf, -inf, math.NaN()} {
			if got, err := dec.Fixed(x, n); got != "" || err != api.ErrRange {
				t.Errorf("Fixed(%g, %d): %s, %d, want ErrRange", x, n, got, err)
			}
		}
	}
}

// fixed is the chapter's words: x with n digits behind the point, by the library's fractions.
func fixed(x float64, n int) string {
	if !finite(x) {
		return others(x)
	}
	digits := nearest(new(big.Rat).Mul(rat(x), tenTo(n))).String()
	digits = strings.Repeat("0", max(n+1-len(digits), 0)) + digits
	text := sign(x) + digits[:len(digits)-n]
	if n > 0 {
		text += "." + digits[len(digits)-n:]
	}
	return text
}

func TestFixedIsTheNearest(t *testing.T) {
	next := stream()
	for i, x := range samples() {
		for _, n := range []int{0, 1 + i%30, int(next() % (api.MaxDigits + 1)), []int{308, 309, 324, 1073, 1074, 1075, 1079, 1080, 1081, 1200}[i%10]} {
			if i%3 > 0 && n > 30 {
				continue
			}
			if got, err := dec.Fixed(x, n); got != fixed(x, n) || err != api.OK {
				t.Errorf("Fixed(%x, %d): %s, %d, want %s", x, n, got, err, fixed(x, n))
			}
		}
	}
}

func TestFixedIsTheLibrarys(t *testing.T) {
	for i, x := range samples() {
		if !finite(x) {
			continue
		}
		for _, n := range []int{0, i % 25, i % (api.MaxDigits + 1)} {
			if got, _ := dec.Fixed(x, n); got != strconv.FormatFloat(x, 'f', n, 64) {
				t.Errorf("Fixed(%x, %d): %s", x, n, got)
			}
		}
	}
}

func TestFixedAtHalves(t *testing.T) {
	for n := range 30 { // odd numbers over 2^(n+1): halves of the digit of number n
		for m := 1; m < 200; m += 2 {
			x := math.Ldexp(float64(m), -n-1)
			for _, y := range []float64{x, -x, math.Nextafter(x, inf), math.Nextafter(x, 0), x + 1024} {
				if got, err := dec.Fixed(y, n); got != fixed(y, n) || err != api.OK {
					t.Errorf("Fixed(%x, %d): %s, %d, want %s", y, n, got, err, fixed(y, n))
				}
			}
		}
	}
}

func TestExact(t *testing.T) {
	for _, c := range []struct {
		x    float64
		want string
	}{
		{0, "0"}, {minus, "-0"}, {inf, "inf"}, {-inf, "-inf"}, {math.NaN(), "nan"}, {math.Float64frombits(1<<64 - 1), "nan"},
		{1, "1"}, {-0.75, "-0.75"}, {10, "10"}, {1e22, "10000000000000000000000"}, {0x1p-10, "0.0009765625"}, {1.5, "1.5"}, {-1e9, "-1000000000"}, {1e18, "1000000000000000000"},
		{0.1, "0.1000000000000000055511151231257827021181583404541015625"},
		{9007199254740993, "9007199254740992"},
	} {
		if got := dec.Exact(c.x); got != c.want {
			t.Errorf("Exact of %g: %s, want %s", c.x, got, c.want)
		}
	}
	if got := dec.Exact(-least); len(got) != len("-0.")+1074 || !strings.HasPrefix(got, "-0."+strings.Repeat("0", 323)+"4940656458412465") || !strings.HasSuffix(got, "5") {
		t.Errorf("Exact of the least float below 0: %s", got)
	}
	if got := dec.Exact(math.MaxFloat64); len(got) != 309 || !strings.HasPrefix(got, "17976931348623157081") || !strings.HasSuffix(got, "8368") {
		t.Errorf("Exact of the greatest float: %s", got)
	}
}

func TestExactHasAllDigits(t *testing.T) {
	for _, x := range samples() {
		want := others(x)
		if finite(x) {
			want = sign(x) + rat(x).FloatString(1074)
			want = strings.TrimSuffix(strings.TrimRight(want, "0"), ".")
		}
		text := dec.Exact(x)
		if text != want {
			t.Errorf("Exact of %x: %s, want %s", x, text, want)
		}
		y, f := dec.Parse(text)
		reads(t, text, y, f, x, api.Fault{})
		_, behind, _ := strings.Cut(text, ".")
		if same, err := dec.Fixed(x, len(behind)); same != text || err != api.OK {
			t.Errorf("Exact of %x: %s, and Fixed: %s", x, text, same)
		}
	}
}
