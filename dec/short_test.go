package dec_test

import (
	"math"
	"math/big"
	"regexp"
	"strconv"
	"strings"
	"testing"

	"enclosure/api"
	"enclosure/dec"
)

func TestShort(t *testing.T) {
	for _, c := range []struct {
		x    float64
		want string
	}{
		{0, "0"}, {minus, "-0"}, {inf, "inf"}, {-inf, "-inf"}, {math.NaN(), "nan"},
		{math.Float64frombits(0xfff<<52 | 1), "nan"}, // whose sign is set
		{1, "1e0"}, {-1, "-1e0"}, {10, "1e1"}, {0.1, "1e-1"}, {1.5, "1.5e0"}, {-123, "-1.23e2"}, {100, "1e2"}, {1e22, "1e22"}, {0.3, "3e-1"}, {1.0 / 3, "3.333333333333333e-1"},
		{0.30000000000000004, "3.0000000000000004e-1"},
		{1e23, "1e23"}, {math.Nextafter(1e23, inf), "1.0000000000000001e23"}, {math.Nextafter(1e23, 0), "9.999999999999997e22"},
		// Both 9e-324 and 1e-323 are read so: the nearer one, which has a digit less ahead.
		{least, "5e-324"}, {-least, "-5e-324"}, {2 * least, "1e-323"}, {3 * least, "1.5e-323"},
		{0x1p-1022, "2.2250738585072014e-308"}, {0x1p-1022 - least, "2.225073858507201e-308"},
		{math.MaxFloat64, "1.7976931348623157e308"}, {-math.MaxFloat64, "-1.7976931348623157e308"},
		{9007199254740993, "9.007199254740992e15"}, {1 << 53, "9.007199254740992e15"}, {1<<53 + 2, "9.007199254740994e15"},
		// The nearest one of 16 digits lies below, where floats stand closer, and isn't read so.
		{0x1p-44, "5.684341886080802e-14"},
		// Of two as near the even one.
		{123456789012345.125, "1.2345678901234512e14"}, {123456789012345.375, "1.2345678901234538e14"}, {-123456789012345.125, "-1.2345678901234512e14"},
		// An end of what is read so is the shortest.
		{0x1p54 + 4, "1.8014398509481988e16"}, {9e15, "9e15"}, {0x1p60, "1.152921504606847e18"},
	} {
		if got := dec.Short(c.x); got != c.want {
			t.Errorf("Short of %g: %s, want %s", c.x, got, c.want)
		}
	}
}

func TestShortIsTheLibrarys(t *testing.T) {
	for _, x := range samples() {
		if !finite(x) || x == 0 {
			continue
		}
		digits, power, _ := strings.Cut(strconv.FormatFloat(x, 'e', -1, 64), "e")
		n, _ := strconv.Atoi(power)
		if got, want := dec.Short(x), digits+"e"+strconv.Itoa(n); got != want {
			t.Errorf("Short of %x: %s, want %s", x, got, want)
		}
	}
}

func TestShortIsReadBack(t *testing.T) {
	for _, x := range samples() {
		text := dec.Short(x)
		y, f := dec.Parse(text)
		reads(t, text, y, f, x, api.Fault{})
	}
}

var written = regexp.MustCompile(`^-?([1-9])(?:\.([0-9]*[1-9]))?e(0|-?[1-9][0-9]*)$`)

// readAs: is n times 10 to the power of e read as x, which is above 0?
func readAs(n *big.Int, e int, x float64) bool {
	y, _ := strconv.ParseFloat(n.String()+"e"+strconv.Itoa(e), 64)
	return y == x
}

// best is the chapter's words: of the whole numbers times 10 to the power of e that are read as x the nearest, of two as near the even one; nil if there is none.
func best(x float64, e int) *big.Int {
	scaled := new(big.Rat).Mul(rat(x), tenTo(-e))
	below := floor(scaled)
	one := nearest(scaled)
	other := new(big.Int).Sub(new(big.Int).Add(new(big.Int).Lsh(below, 1), big.NewInt(1)), one)
	for _, n := range []*big.Int{one, other} {
		if readAs(n, e, x) {
			return n
		}
	}
	return nil
}

func TestShortIsTheShortestAndTheNearest(t *testing.T) {
	for i, x := range samples() {
		if !finite(x) || x == 0 || i%3 > 0 && i > 9000 {
			continue
		}
		text := dec.Short(x)
		m := written.FindStringSubmatch(text)
		if m == nil || (text[0] == '-') != (x < 0) {
			t.Errorf("Short of %x: %s isn't written so", x, text)
			continue
		}
		digits, _ := new(big.Int).SetString(m[1]+m[2], 10)
		power, _ := strconv.Atoi(m[3])
		e := power - len(m[2])
		if n := best(math.Abs(x), e); n == nil || n.Cmp(digits) != 0 {
			t.Errorf("Short of %x: %s, want %ve%d", x, text, n, e)
		}
		if n := best(math.Abs(x), e+1); n != nil && len(m[2]) > 0 {
			t.Errorf("Short of %x: %s, but %ve%d is shorter", x, text, n, e+1)
		}
	}
}
