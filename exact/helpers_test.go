package exact_test

import (
	"math"
	"math/big"
	"testing"

	"enclosure/api"
	"enclosure/exact"
)

// stream answers words that are spread over all bits, the same ones in each run.
func stream() func() uint64 {
	state := uint64(2)
	return func() uint64 {
		state += 0x9e3779b97f4a7c15
		z := state
		z = (z ^ z>>30) * 0xbf58476d1ce4e5b9
		z = (z ^ z>>27) * 0x94d049bb133111eb
		return z ^ z>>31
	}
}

// ratText is the text that P2.3 asks for, by the library's fractions.
func ratText(r *big.Rat) string {
	if r.IsInt() {
		return r.Num().String()
	}
	return r.Num().String() + "/" + r.Denom().String()
}

// num is the Num of a library's fraction, made by calls that Parse has no part in.
func num(t testing.TB, r *big.Rat) exact.Num {
	t.Helper()
	low := bigNum(r.Denom())
	x, err := bigNum(r.Num()).Quo(low)
	if err != api.OK || x.Text() != ratText(r) {
		t.Fatalf("%s is made as %s, %d", ratText(r), x.Text(), err)
	}
	return x
}

// bigNum puts a whole number together, 32 digits in twos at a time.
func bigNum(n *big.Int) exact.Num {
	var x exact.Num
	step := exact.Int(1 << 32)
	mag := new(big.Int).Abs(n)
	for i := (mag.BitLen() + 31) / 32; i > 0; i-- {
		part := new(big.Int).Rsh(mag, uint(32*(i-1)))
		part.And(part, big.NewInt(1<<32-1))
		x = x.Mul(step).Add(exact.Int(int(part.Int64())))
	}
	if n.Sign() < 0 {
		x = x.Neg()
	}
	return x
}

// bigInt is a whole number of about so many digits in twos, in which long rows of the same digit are frequent.
func bigInt(next func() uint64, size int) *big.Int {
	n := new(big.Int)
	for n.BitLen() < size {
		w := next()
		run := uint(1 + next()%70)
		n.Lsh(n, run)
		switch w % 3 {
		case 0:
			n.Add(n, new(big.Int).Sub(new(big.Int).Lsh(big.NewInt(1), run), big.NewInt(1)))
		case 1:
			n.Add(n, new(big.Int).SetUint64(w>>4&(1<<min(run, 60)-1)))
		case 2:
			n.Add(n, big.NewInt(1))
		}
	}
	return n
}

// fractions: corners, and many between, of all lengths.
func fractions() []*big.Rat {
	var l []*big.Rat
	for _, c := range [][2]int64{{0, 1}, {1, 1}, {1, 2}, {1, 3}, {3, 2}, {4, 9}, {2, 1}, {10, 1}, {1, 10}, {math.MaxInt64, 1}, {math.MinInt64, 1}, {math.MaxInt64, math.MaxInt64 - 1}, {1, math.MaxInt64}, {1 << 62, 3}} {
		r := big.NewRat(c[0], c[1])
		l = append(l, r, new(big.Rat).Neg(r))
	}
	next := stream()
	for i := range 300 {
		top, low := bigInt(next, int(next()%uint64(20+10*i))), bigInt(next, 1+int(next()%uint64(20+10*i)))
		if shared := next(); shared%2 == 0 { // fractions with the same factors below the bar, or on both sides of it
			f := bigInt(stream(), 1+int(shared>>8%900))
			low.Mul(low, f)
			if shared%4 == 0 {
				top.Mul(top, f)
			}
		}
		r := new(big.Rat).SetFrac(top, low)
		if next()%2 == 0 {
			r.Neg(r)
		}
		l = append(l, r)
	}
	return l
}

// floats: the corners of the finite floats, of both signs, and many between.
func floats() []float64 {
	var l []float64
	for _, exp := range []uint64{0, 1, 2, 52, 53, 1022, 1023, 1024, 1075, 1076, 2045, 2046} {
		for _, frac := range []uint64{0, 1, 2, 3, 1<<51 - 1, 1 << 51, 1<<52 - 2, 1<<52 - 1} {
			x := math.Float64frombits(exp<<52 | frac)
			l = append(l, x, -x)
		}
	}
	next := stream()
	for len(l) < 2000 {
		if x := math.Float64frombits(next()); !math.IsNaN(x) && !math.IsInf(x, 0) {
			l = append(l, x)
		}
	}
	return l
}

// rat is just what a finite float is.
func rat(x float64) *big.Rat { return new(big.Rat).SetFloat64(x) }

// twoTo is 2 to the power of e.
func twoTo(e int) *big.Rat {
	r := new(big.Rat).SetInt(new(big.Int).Lsh(big.NewInt(1), uint(max(e, -e))))
	if e < 0 {
		r.Inv(r)
	}
	return r
}

// zero fails unless x is the zero value, in all it tells.
func zero(t *testing.T, what string, x exact.Num) {
	t.Helper()
	if x.Text() != "0" || x.Sign() != 0 || x.Cmp(exact.Num{}) != 0 {
		t.Errorf("%s: %s beside an error, want 0", what, x.Text())
	}
}
