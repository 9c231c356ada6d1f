package span_test

import (
	"math"
	"math/big"
	"testing"

	"enclosure/api"
)

var inf, nan, least, most = math.Inf(1), math.NaN(), math.SmallestNonzeroFloat64, math.MaxFloat64

// minus is -0, of which the language has no literal.
var minus = math.Copysign(0, -1)

func from(lo, hi float64) api.Span { return api.Span{Lo: lo, Hi: hi} }

// told fails unless an answer, and the error beside it, is what it must be.
func told(t *testing.T, what string, of any, got api.Span, err api.Errno, want api.Span, code api.Errno) {
	t.Helper()
	if err != code || got != want {
		t.Errorf("%s of %v: %v %v, want %v %v", what, of, got, err, want, code)
	}
}

// stream answers words that are spread over all bits, the same ones in each run.
func stream(seed uint64) func() uint64 {
	return func() uint64 {
		seed += 0x9e3779b97f4a7c15
		z := seed
		z = (z ^ z>>30) * 0xbf58476d1ce4e5b9
		z = (z ^ z>>27) * 0x94d049bb133111eb
		return z ^ z>>31
	}
}

// makers make finite floats, each of them of one sort.
func makers(seed uint64) []func() float64 {
	next := stream(seed)
	upTo := func(n uint64) float64 { return float64(next()%(2*n+1)) - float64(n) }
	return []func() float64{
		func() float64 { return upTo(2) },
		func() float64 { return upTo(20) },
		func() float64 { return upTo(1<<53-1) * 0x1p-52 },
		func() float64 { return upTo(3) * least },
		func() float64 { return upTo(1<<52) * 0x1p-563 },  // products are about the least ones
		func() float64 { return upTo(1<<53-1) * 0x1p459 }, // and here about the greatest ones
		func() float64 { return upTo(4) / 4 * most },
		func() float64 { return 1 + upTo(8)*0x1p-52 },
		func() float64 { return math.Float64frombits(next() &^ (1 << 62)) }, // below 2
		func() float64 { return math.Float64frombits((next()>>63<<63 | 1<<62 | next()>>2) &^ (1 << 52)) },
	}
}

// spans have ends of each two sorts, in order, so many times; and of each sort spans
// of one number, and of neighbours.
func spans(seed uint64, rounds int) []api.Span {
	var l []api.Span
	all := makers(seed)
	for range rounds {
		for _, one := range all {
			for _, other := range all {
				x, y := one(), other()
				l = append(l, from(min(x, y), max(x, y)))
			}
			x := one()
			l = append(l, from(x, x))
			if y := math.Nextafter(x, inf); y < inf {
				l = append(l, from(x, y))
			}
		}
	}
	return l
}

// rat is just what x is.
func rat(x float64) *big.Rat { return new(big.Rat).SetFloat64(x) }

func plus(x, y *big.Rat) *big.Rat { return new(big.Rat).Add(x, y) }

func less(x, y *big.Rat) *big.Rat { return new(big.Rat).Sub(x, y) }

func times(x, y *big.Rat) *big.Rat { return new(big.Rat).Mul(x, y) }

func over(x, y *big.Rat) *big.Rat { return new(big.Rat).Quo(x, y) }

// toThe is x, n times multiplied.
func toThe(x *big.Rat, n int) *big.Rat {
	v := big.NewRat(1, 1)
	for range n {
		v = times(v, x)
	}
	return v
}

// within are numbers of s: its ends, some between, and 0 if it lies there.
func within(s api.Span) []*big.Rat {
	lo, hi := rat(s.Lo), rat(s.Hi)
	l := []*big.Rat{lo, hi}
	for _, share := range []*big.Rat{big.NewRat(1, 1000), big.NewRat(1, 2), big.NewRat(2, 3)} {
		l = append(l, plus(lo, times(share, less(hi, lo))))
	}
	if lo.Sign() <= 0 && hi.Sign() >= 0 {
		l = append(l, new(big.Rat))
	}
	return l
}

// down is the greatest float that isn't above v, or what is infinite and below 0.
func down(v *big.Rat) float64 {
	x, _ := v.Float64()
	if math.IsInf(x, 1) || !math.IsInf(x, -1) && rat(x).Cmp(v) > 0 {
		return math.Nextafter(x, -inf)
	}
	return x
}

// up is the least float that isn't below v, or what is infinite and above 0.
func up(v *big.Rat) float64 { return -down(new(big.Rat).Neg(v)) }

// outwards is the span from the least of l to the greatest one, by the chapter's words.
func outwards(l []*big.Rat) (api.Span, api.Errno) {
	lo, hi := l[0], l[0]
	for _, v := range l {
		if v.Cmp(lo) < 0 {
			lo = v
		}
		if v.Cmp(hi) > 0 {
			hi = v
		}
	}
	s := from(down(lo), up(hi))
	if math.IsInf(s.Lo, 0) || math.IsInf(s.Hi, 0) {
		return api.Span{}, api.ErrRange
	}
	return s, api.OK
}
