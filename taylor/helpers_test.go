package taylor_test

import (
	"math"
	"math/big"
	"slices"
	"testing"

	"enclosure/api"
	"enclosure/taylor"
)

var inf, nan, least, most = math.Inf(1), math.NaN(), math.SmallestNonzeroFloat64, math.MaxFloat64

// minus is -0, of which the language has no literal.
var minus = math.Copysign(0, -1)

// fine is no fault.
var fine = api.Fault{}

func fault(code api.Errno, at int) api.Fault { return api.Fault{Code: code, At: at} }

// model is one with such a rest, and with such a polynomial.
func model(rest float64, c ...float64) taylor.Model { return taylor.Model{C: c, Rest: rest} }

func from(lo, hi float64) api.Span { return api.Span{Lo: lo, Hi: hi} }

// told fails unless a model, and its fault, is what it must be.
func told(t *testing.T, what string, of any, got taylor.Model, err api.Fault, want taylor.Model, code api.Fault) {
	t.Helper()
	if err != code || !slices.Equal(got.C, want.C) || got.Rest != want.Rest {
		t.Errorf("%s of %v: %v %v, want %v %v", what, of, got, err, want, code)
	}
}

// spanned is told of spans.
func spanned(t *testing.T, what string, of any, got api.Span, err api.Fault, want api.Span, code api.Fault) {
	t.Helper()
	if err != code || got != want {
		t.Errorf("%s of %v: %v %v, want %v %v", what, of, got, err, want, code)
	}
}

// stream answers words that are spread over all bits, the same ones in each run.
func stream(seed uint64) func() uint64 {
	return func() uint64 {
		seed += 0x9e3779b97f4a7c15
		z := seed
		z = (z ^ z>>30) * 0xbf58476d1ce4e5b9
		z = (z ^ z>>27) * 0x94d049bb133111eb
		return z ^ z>>31
	}
}

// makers make finite floats, each of them of one sort.
func makers(next func() uint64) []func() float64 {
	upTo := func(n uint64) float64 { return float64(next()%(2*n+1)) - float64(n) }
	return []func() float64{
		func() float64 { return upTo(2) },
		func() float64 { return upTo(20) / 4 },
		func() float64 { return upTo(1<<53-1) * 0x1p-52 },
		func() float64 { return upTo(3) * least },
		func() float64 { return upTo(1<<52) * 0x1p-563 },  // products are about the least ones
		func() float64 { return upTo(1<<53-1) * 0x1p457 }, // and here about the greatest ones
		func() float64 { return upTo(4) / 4 * most },
		func() float64 { return 1 + upTo(8)*0x1p-52 },
		func() float64 { return []float64{0, least, 0x1p-1022, 0x1p-500, 1, 0x1p300, most}[next()%7] },
		func() float64 { return math.Float64frombits(next() &^ (1 << 62)) }, // below 2
	}
}

// models are of all lengths, with entries and rests of all sorts, so many of each.
func models(seed uint64, rounds int) []taylor.Model {
	next := stream(seed)
	all := makers(next)
	var l []taylor.Model
	for range rounds {
		for n := range api.MaxDegree + 2 {
			for _, entry := range all {
				m := taylor.Model{Rest: math.Abs(all[next()%uint64(len(all))]())}
				if next()%4 == 0 {
					m.Rest = 0
				}
				for range n {
					m.C = append(m.C, entry())
				}
				l = append(l, m)
			}
		}
	}
	return l
}

// points are numbers from -1 to 1.
func points(next func() uint64) []float64 {
	return []float64{-1, minus, 0, 1, 0.5, -0.1, least, -least, 1 - 0x1p-53, 0x1p-52 - 1, 0x1p-600,
		float64(next()>>11)*0x1p-52 - 1, math.Float64frombits(next()%0x3ff0000000000000 | next()&(1<<63))}
}

// rat is just what x is.
func rat(x float64) *big.Rat { return new(big.Rat).SetFloat64(x) }

func rats(l []float64) []*big.Rat {
	var v []*big.Rat
	for _, x := range l {
		v = append(v, rat(x))
	}
	return v
}

func plus(x, y *big.Rat) *big.Rat { return new(big.Rat).Add(x, y) }

func less(x, y *big.Rat) *big.Rat { return new(big.Rat).Sub(x, y) }

func times(x, y *big.Rat) *big.Rat { return new(big.Rat).Mul(x, y) }

func abs(x *big.Rat) *big.Rat { return new(big.Rat).Abs(x) }

// sizes is the sum of l without signs.
func sizes(l []*big.Rat) *big.Rat {
	sum := new(big.Rat)
	for _, v := range l {
		sum = plus(sum, abs(v))
	}
	return sum
}

// value is what the polynomial p is at t.
func value(p []*big.Rat, t *big.Rat) *big.Rat {
	sum, power := new(big.Rat), big.NewRat(1, 1)
	for _, c := range p {
		sum = plus(sum, times(c, power))
		power = times(power, t)
	}
	return sum
}

// added is the sum of two polynomials.
func added(p, q []*big.Rat) []*big.Rat {
	var l []*big.Rat
	for i := range max(len(p), len(q)) {
		v := new(big.Rat)
		if i < len(p) {
			v = plus(v, p[i])
		}
		if i < len(q) {
			v = plus(v, q[i])
		}
		l = append(l, v)
	}
	return l
}

// multiplied is the product of two polynomials, entry by entry.
func multiplied(p, q []*big.Rat) []*big.Rat {
	if len(p) == 0 || len(q) == 0 {
		return nil
	}
	var l []*big.Rat
	for n := range len(p) + len(q) - 1 {
		v := new(big.Rat)
		for i := range p {
			if k := n - i; k >= 0 && k < len(q) {
				v = plus(v, times(p[i], q[k]))
			}
		}
		l = append(l, v)
	}
	return l
}

// summed is what lies under the polynomial p, from 0 on.
func summed(p []*big.Rat) []*big.Rat {
	l := []*big.Rat{new(big.Rat)}
	for i, v := range p {
		l = append(l, times(v, big.NewRat(1, int64(i+1))))
	}
	return l
}

// down is the greatest float that isn't above v, or what is infinite and below 0.
func down(v *big.Rat) float64 {
	x, _ := v.Float64()
	if math.IsInf(x, 1) || !math.IsInf(x, -1) && rat(x).Cmp(v) > 0 {
		return math.Nextafter(x, -inf)
	}
	return x
}

// up is the least float that isn't below v, or what is infinite and above 0.
func up(v *big.Rat) float64 { return -down(new(big.Rat).Neg(v)) }

// outwards is the span of what is no farther than far from mid, by the chapter's words.
func outwards(mid, far *big.Rat) (api.Span, api.Fault) {
	s := from(down(less(mid, far)), up(plus(mid, far)))
	if math.IsInf(s.Lo, 0) || math.IsInf(s.Hi, 0) {
		return api.Span{}, fault(api.ErrRange, 0)
	}
	return s, fine
}

// made is the model made of p, a degree, and a rest, by the chapter's words.
func made(p []*big.Rat, degree int, rest *big.Rat) (taylor.Model, api.Fault) {
	var m taylor.Model
	for i, v := range p {
		if i > degree {
			rest = plus(rest, abs(v))
			continue
		}
		x, _ := v.Float64()
		if math.IsInf(x, 0) {
			return taylor.Model{}, fault(api.ErrRange, i)
		}
		m.C = append(m.C, x)
		rest = plus(rest, abs(less(v, rat(x))))
	}
	m.Rest = up(rest)
	if math.IsInf(m.Rest, 0) {
		return taylor.Model{}, fault(api.ErrRange, len(m.C))
	}
	return m, fine
}

// product is Mul of a and b, by the chapter's words.
func product(a, b taylor.Model, degree int) (taylor.Model, api.Fault) {
	p, q, r, s := rats(a.C), rats(b.C), rat(a.Rest), rat(b.Rest)
	rest := plus(plus(times(sizes(p), s), times(sizes(q), r)), times(r, s))
	return made(multiplied(p, q), degree, rest)
}
