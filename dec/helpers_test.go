package dec_test

import (
	"fmt"
	"math"
	"math/big"
	"strconv"
	"strings"
	"testing"

	"enclosure/api"
)

var inf, minus, least = math.Inf(1), math.Copysign(0, -1), math.SmallestNonzeroFloat64

// alike: are two floats the same to the bit, or both no number?
func alike(x, y float64) bool {
	return math.Float64bits(x) == math.Float64bits(y) || math.IsNaN(x) && math.IsNaN(y)
}

// finite: is x neither infinite nor no number?
func finite(x float64) bool { return !math.IsNaN(x) && !math.IsInf(x, 0) }

// stream answers words that are spread over all bits, the same ones in each run.
func stream() func() uint64 {
	state := uint64(3)
	return func() uint64 {
		state += 0x9e3779b97f4a7c15
		z := state
		z = (z ^ z>>30) * 0xbf58476d1ce4e5b9
		z = (z ^ z>>27) * 0x94d049bb133111eb
		return z ^ z>>31
	}
}

// samples: the corners of the floats, many between, and some that have few digits, of both signs.
func samples() []float64 {
	l := []float64{0, inf, math.NaN(), 0.1, 0.3, 1e16, 1e22, 1e23, 9.5e-323, 123456789012345.125, 123456789012345.375}
	for exp := uint64(0); exp < 2048; exp++ {
		if exp > 60 && exp < 1990 && exp%16 > 0 && (exp < 960 || exp > 1090) {
			continue
		}
		for _, frac := range []uint64{0, 1, 2, 1<<51 - 1, 1 << 51, 1<<52 - 1} {
			l = append(l, math.Float64frombits(exp<<52|frac))
		}
	}
	next := stream()
	for i := range 3000 {
		l = append(l, math.Float64frombits(next()))
		l = append(l, float64(next()>>(i%60))) // whole numbers
		l = append(l, float64(next()>>11)/float64(uint64(1)<<(i%40)))
		l = append(l, math.Float64frombits(next()>>(12+i%52))) // without a leading one
		x, _ := strconv.ParseFloat(fmt.Sprintf("%de%d", next()%1000, int(next()%640)-325), 64)
		l = append(l, x)
	}
	for _, x := range l {
		l = append(l, -x)
	}
	return l
}

// rat is just what x is, without its sign.
func rat(x float64) *big.Rat { return new(big.Rat).SetFloat64(math.Abs(x)) }

// tenTo is 10 to the power of e.
func tenTo(e int) *big.Rat {
	r := new(big.Rat).SetInt(new(big.Int).Exp(big.NewInt(10), big.NewInt(int64(max(e, -e))), nil))
	if e < 0 {
		r.Inv(r)
	}
	return r
}

// floor is the greatest whole number that isn't above r.
func floor(r *big.Rat) *big.Int { return new(big.Int).Div(r.Num(), r.Denom()) }

// nearest is the whole number nearest to r, of two as near the even one.
func nearest(r *big.Rat) *big.Int {
	n := floor(r)
	rest := new(big.Rat).Sub(r, new(big.Rat).SetInt(n))
	if c := rest.Cmp(big.NewRat(1, 2)); c > 0 || c == 0 && n.Bit(0) == 1 {
		n.Add(n, big.NewInt(1))
	}
	return n
}

// sign is what stands ahead of x.
func sign(x float64) string {
	if math.Signbit(x) {
		return "-"
	}
	return ""
}

// others is how what isn't finite is written.
func others(x float64) string {
	switch {
	case math.IsNaN(x):
		return "nan"
	case x > 0:
		return "inf"
	}
	return "-inf"
}

// texts is all texts of up to n of these signs.
func texts(signs string, n int) []string {
	l := []string{""}
	for range n {
		longer := []string{""}
		for _, s := range l {
			for _, c := range []byte(signs) {
				longer = append(longer, s+string(c))
			}
		}
		l = longer
	}
	return l
}

// near is text, and all that comes of it when one byte is left out, put in, or changed, or the end is cut off.
func near(text, signs string) []string {
	l := []string{text}
	for i := range len(text) + 1 {
		l = append(l, text[:i])
		for _, c := range []byte(signs) {
			l = append(l, text[:i]+string(c)+text[i:])
			if i < len(text) {
				l = append(l, text[:i]+string(c)+text[i+1:])
			}
		}
		if i < len(text) {
			l = append(l, text[:i]+text[i+1:])
		}
	}
	return l
}

// reads fails unless a call on text answered this.
func reads(t *testing.T, text string, x float64, f api.Fault, want float64, fault api.Fault) {
	t.Helper()
	if !alike(x, want) && !(fault.Code != api.OK && x == want) || f != fault {
		t.Errorf("%.60q (%d bytes): %g, %v, want %g, %v", text, len(text), x, f, want, fault)
	}
}

// long is texts that have just as many bytes as they may, one more, and many more.
func long() []string {
	var l []string
	for _, s := range []string{"1", "x", "0", "-", "nan", "inf", "0x1p0", "1.5e", "9"} {
		text := strings.Repeat(s, api.MaxText+1)
		l = append(l, text[:api.MaxText], text[:api.MaxText+1], text+text)
	}
	return l
}
