package cplx_test

import (
	"math"
	"math/big"
	"testing"

	"enclosure/api"
)

var inf, nan, least, most = math.Inf(1), math.NaN(), math.SmallestNonzeroFloat64, math.MaxFloat64

// minus is -0, of which the language has no literal.
var minus = math.Copysign(0, -1)

// none and infinite are what is answered beside the finite ones.
var none, infinite = complex(nan, nan), complex(inf, 0)

var modes = []int{api.Near, api.Down, api.Up, api.In}

var noModes = []int{0, -1, 5, math.MaxInt, math.MinInt}

// same: are z and w the same, but for the signs of noughts?
func same(z, w complex128) bool { return alike(real(z), real(w)) && alike(imag(z), imag(w)) }

func alike(x, y float64) bool { return x == y || math.IsNaN(x) && math.IsNaN(y) }

// is fails unless what is answered is what must be.
func is(t *testing.T, what string, of any, got, want complex128) {
	t.Helper()
	if !same(got, want) {
		t.Errorf("%s of %v: %v, want %v", what, of, got, want)
	}
}

// By the chapter's words: what is infinite, and what is none.

func endless(a complex128) bool { return math.IsInf(real(a), 0) || math.IsInf(imag(a), 0) }

func nothing(a complex128) bool {
	return !endless(a) && (math.IsNaN(real(a)) || math.IsNaN(imag(a)))
}

func finite(a complex128) bool { return !endless(a) && !nothing(a) }

// corners are numbers of all kinds, and at all ends.
func corners() []complex128 {
	parts := []float64{0, minus, 1, -1, 0.1, least, -least, most, -most, inf, -inf, nan}
	var l []complex128
	for _, x := range parts {
		for _, y := range parts {
			l = append(l, complex(x, y))
		}
	}
	return l
}

// stream answers words that are spread over all bits, the same ones in each run.
func stream(seed uint64) func() uint64 {
	return func() uint64 {
		seed += 0x9e3779b97f4a7c15
		z := seed
		z = (z ^ z>>30) * 0xbf58476d1ce4e5b9
		z = (z ^ z>>27) * 0x94d049bb133111eb
		return z ^ z>>31
	}
}

// makers make parts that are finite, each of them of one sort.
func makers(seed uint64) []func() float64 {
	next := stream(seed)
	whole := func(n uint64) float64 { return float64(next()%(2*n+1)) - float64(n) }
	return []func() float64{
		func() float64 { return whole(2) },
		func() float64 { return whole(20) },
		func() float64 { return whole(1<<53 - 1) },
		func() float64 { return whole(3) * least },
		func() float64 { return whole(1<<52) * 0x1p-563 }, // squares are about the least ones
		func() float64 { return whole(1<<53-1) * 0x1p459 },
		func() float64 { return whole(4) / 4 * most },
		func() float64 { return 1 + whole(8)*0x1p-52 },
		func() float64 { return 0.1 * whole(10) },
		func() float64 { return []float64{0, least, 0x1p-1022, 0x1p-500, 1, 0x1p300, most}[next()%7] },
		func() float64 { return math.Float64frombits(next() &^ (1 << 62)) }, // below 2
		func() float64 { return math.Float64frombits((next()>>63<<63 | 1<<62 | next()>>2) &^ (1 << 52)) },
	}
}

// finites: numbers with parts of each two sorts, each two so many times.
func finites(seed uint64, times int) []complex128 {
	var l []complex128
	all := makers(seed)
	for _, x := range all {
		for _, y := range all {
			for range times {
				l = append(l, complex(x(), y()))
			}
		}
	}
	return l
}

// rat is just what x is.
func rat(x float64) *big.Rat { return new(big.Rat).SetFloat64(x) }

// exactly is a complex number by two fractions.
type exactly struct{ x, y *big.Rat }

func just(a complex128) exactly { return exactly{rat(real(a)), rat(imag(a))} }

func plus(x, y *big.Rat) *big.Rat { return new(big.Rat).Add(x, y) }

func less(x, y *big.Rat) *big.Rat { return new(big.Rat).Sub(x, y) }

func times(x, y *big.Rat) *big.Rat { return new(big.Rat).Mul(x, y) }

func norm(a complex128) *big.Rat {
	v := just(a)
	return plus(times(v.x, v.x), times(v.y, v.y))
}

// rounded is a complex number, rounded, by the chapter's words.
func (v exactly) rounded() complex128 {
	x, _ := v.x.Float64()
	y, _ := v.y.Float64()
	if math.IsInf(x, 0) || math.IsInf(y, 0) {
		return infinite
	}
	return complex(x, y)
}
