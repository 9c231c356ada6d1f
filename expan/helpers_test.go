package expan_test

import (
	"math"
	"math/big"
	"slices"
	"testing"

	"enclosure/api"
)

var inf, nan, least, most = math.Inf(1), math.NaN(), math.SmallestNonzeroFloat64, math.MaxFloat64

// minus is -0, of which the language has no literal.
var minus = math.Copysign(0, -1)

var modes = []int{api.Near, api.Down, api.Up, api.In}

var noModes = []int{0, -1, 5, math.MaxInt, math.MinInt}

// fine is no fault.
var fine = api.Fault{}

// finite: is x neither infinite nor no number?
func finite(x float64) bool { return !math.IsNaN(x) && !math.IsInf(x, 0) }

// stream answers words that are spread over all bits, the same ones in each run.
func stream(seed uint64) func() uint64 {
	return func() uint64 {
		seed += 0x9e3779b97f4a7c15
		z := seed
		z = (z ^ z>>30) * 0xbf58476d1ce4e5b9
		z = (z ^ z>>27) * 0x94d049bb133111eb
		return z ^ z>>31
	}
}

// some is a finite float whose field of the exponent is from low to high, in half
// of all cases one with few digits.
func some(next func() uint64, low, high int) float64 {
	w := next()
	if w%2 == 0 {
		w &^= 1<<(w>>1%53) - 1
	}
	exp := uint64(low) + next()%uint64(high-low+1)
	return math.Float64frombits(next()&(1<<63) | exp<<52 | w>>12)
}

// lists: short ones of all sizes of floats, with much that is lost on the way, with
// halves, and with what is too great in floats.
func lists(seed uint64, count int) [][]float64 {
	next := stream(seed)
	var l [][]float64
	for i := range count {
		low := int(next() % 2047)
		high := min(low+[]int{0, 5, 60, 200, 2046}[i%5], 2046)
		one := make([]float64, next()%12)
		for k := range one {
			one[k] = some(next, low, high)
			switch next() % 8 {
			case 0:
				one[k] = -one[next()%uint64(k+1)] // what is taken back
			case 1:
				one[k] = step(one[next()%uint64(k+1)]) / 2 // half of the last digit
			}
		}
		l = append(l, one)
	}
	return l
}

// step is the way from x to the next float that is farther from 0, or a like one.
func step(x float64) float64 {
	x = math.Abs(x)
	return x - math.Nextafter(x, 0)
}

// rat is just what x is.
func rat(x float64) *big.Rat { return new(big.Rat).SetFloat64(x) }

func added(l []float64) *big.Rat {
	sum := new(big.Rat)
	for _, x := range l {
		sum.Add(sum, rat(x))
	}
	return sum
}

func product(x, y *big.Rat) *big.Rat { return new(big.Rat).Mul(x, y) }

// dot is the sum of the products.
func dot(a, b []float64) *big.Rat {
	sum := new(big.Rat)
	for i, x := range a {
		sum.Add(sum, product(rat(x), rat(b[i])))
	}
	return sum
}

// entries is the list of v, by the chapter's words, and not more than n of it;
// false, if there is none.
func entries(v *big.Rat, n int) ([]float64, bool) {
	var l []float64
	for v.Sign() != 0 && len(l) < n {
		x, _ := v.Float64()
		if x == 0 || math.IsInf(x, 0) {
			return nil, false
		}
		l = append(l, x)
		v = new(big.Rat).Sub(v, rat(x))
	}
	return l, true
}

// rounded is v in a mode, by the floats on both sides of it.
func rounded(v *big.Rat, mode int) float64 {
	x, _ := v.Float64()
	if mode == api.Near || finite(x) && rat(x).Cmp(v) == 0 {
		return x
	}
	below, above := x, x
	if math.IsInf(x, 1) || !math.IsInf(x, -1) && rat(x).Cmp(v) > 0 {
		below = math.Nextafter(x, -inf)
	} else {
		above = math.Nextafter(x, inf)
	}
	if mode == api.Down || mode == api.In && v.Sign() > 0 {
		return below
	}
	return above
}

// tells fails unless an answer is just want, and beside a fault nothing.
func tells(t *testing.T, what string, of any, got []float64, fault api.Fault, want []float64, code api.Fault) {
	t.Helper()
	if fault != code || !slices.Equal(got, want) || fault != fine && got != nil {
		t.Errorf("%s of %v: %v %v, want %v %v", what, of, got, fault, want, code)
	}
}

// is fails unless one number, and its fault, is what it must be.
func is[T comparable](t *testing.T, what string, of any, got T, fault api.Fault, want T, code api.Fault) {
	t.Helper()
	if fault != code || got != want {
		t.Errorf("%s of %v: %v %v, want %v %v", what, of, got, fault, want, code)
	}
}

// long is a list of n ones, with others at some places.
func long(n int, others map[int]float64) []float64 {
	l := slices.Repeat([]float64{1}, n)
	for i, x := range others {
		l[i] = x
	}
	return l
}

// badLists are lists with what is said of them.
func badLists() map[api.Fault][][]float64 {
	at := func(i int) api.Fault { return api.Fault{Code: api.ErrNaN, At: i} }
	return map[api.Fault][][]float64{
		{Code: api.ErrMany}: {long(api.MaxList+1, nil), long(api.MaxList+1, map[int]float64{0: nan}), long(3*api.MaxList, map[int]float64{5000: inf})},
		at(0):               {{nan}, {inf}, {-inf}, {nan, inf}, {inf, 1, -inf}, {-inf, nan}},
		at(2):               {{1, 2, inf}, {most, most, nan, inf}, {0, minus, -inf, 1}},
		at(api.MaxList - 1): {long(api.MaxList, map[int]float64{api.MaxList - 1: nan})},
	}
}

// spare is l with spare room behind it, in which something stands.
func spare(l []float64) []float64 {
	return slices.Concat(l, []float64{7, nan, -7})[:len(l)]
}

// kept fails unless l, and what stands in the spare room behind it, is what spare made of was.
func kept(t *testing.T, what string, l, was []float64) {
	t.Helper()
	got, want := l[:len(was)+3], slices.Concat(was, []float64{7, nan, -7})
	for i, x := range want {
		if math.Float64bits(got[i]) != math.Float64bits(x) {
			t.Errorf("%s changed what was handed in: %v, it was %v", what, got, want)
			return
		}
	}
}
