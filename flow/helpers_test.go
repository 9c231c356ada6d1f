package flow_test

import (
	"math"
	"math/big"
	"testing"

	"enclosure/api"
	"enclosure/flow"
)

var inf, nan, least, most = math.Inf(1), math.NaN(), math.SmallestNonzeroFloat64, math.MaxFloat64

// minus is -0, of which the language has no literal.
var minus = math.Copysign(0, -1)

// fine is no fault.
var fine = api.Fault{}

func fault(code api.Errno, at int) api.Fault { return api.Fault{Code: code, At: at} }

// term is one of that unknown, with such powers.
func term(out int, k float64, pow ...int) api.Term { return api.Term{Out: out, K: k, Pow: pow} }

func from(lo, hi float64) api.Span { return api.Span{Lo: lo, Hi: hi} }

// at is the span of x alone.
func at(x float64) api.Span { return from(x, x) }

func spans(l ...api.Span) []api.Span { return l }

func above(x float64) float64 { return math.Nextafter(x, inf) }

func below(x float64) float64 { return math.Nextafter(x, -inf) }

// stream answers words that are spread over all bits, the same ones in each run.
func stream(seed uint64) func() uint64 {
	return func() uint64 {
		seed += 0x9e3779b97f4a7c15
		z := seed
		z = (z ^ z>>30) * 0xbf58476d1ce4e5b9
		z = (z ^ z>>27) * 0x94d049bb133111eb
		return z ^ z>>31
	}
}

// upTo answers floats from -x to x, many of them at the ends, 0, tiny or round.
func upTo(next func() uint64, x float64) func() float64 {
	return func() float64 {
		sign := float64(next()%3) - 1
		share := float64(next()>>11) * 0x1p-53
		switch next() % 6 {
		case 0:
			return sign * x
		case 1:
			return sign * float64(next()%9) / 8 * x
		case 2:
			return sign * share * x * math.Ldexp(1, -int(next()%1100))
		case 3:
			return sign * float64(next()%5) * least
		case 4:
			return sign * below(x)
		}
		return (2*share - 1) * x
	}
}

// between are as many spans, with ends that value answers.
func between(next func() uint64, n int, value func() float64) []api.Span {
	var l []api.Span
	for range n {
		a, b := value(), value()
		if next()%2 == 0 {
			b = a
		}
		l = append(l, from(min(a, b), max(a, b)))
	}
	return l
}

// system is one of n unknowns and so many terms, of which no one's powers are more than
// total together, and none of them is more than 4.
func system(next func() uint64, n, terms, total int, value func() float64) []api.Term {
	var f []api.Term
	for range terms {
		pow := make([]int, n)
		for range next() % uint64(total+1) {
			if i := next() % uint64(n); pow[i] < 4 {
				pow[i]++
			}
		}
		f = append(f, term(int(next()%uint64(n)), value(), pow...))
	}
	return f
}

// rat is just what x is.
func rat(x float64) *big.Rat { return new(big.Rat).SetFloat64(x) }

func plus(x, y *big.Rat) *big.Rat { return new(big.Rat).Add(x, y) }

func less(x, y *big.Rat) *big.Rat { return new(big.Rat).Sub(x, y) }

func times(x, y *big.Rat) *big.Rat { return new(big.Rat).Mul(x, y) }

func over(x, y *big.Rat) *big.Rat { return new(big.Rat).Quo(x, y) }

// power is x to the power of n.
func power(x *big.Rat, n int) *big.Rat {
	v := big.NewRat(1, 1)
	for range n {
		v = times(v, x)
	}
	return v
}

// lies: does v lie in s?
func lies(v *big.Rat, s api.Span) bool { return v.Cmp(rat(s.Lo)) >= 0 && v.Cmp(rat(s.Hi)) <= 0 }

// stepped is what Step tells, of which all is tried that can be tried without knowing
// where unknowns are: that there is no fault, that Holds says so of the box, and that the
// end lies in it.
func stepped(t *testing.T, f []api.Term, y []api.Span, h float64) (end, box []api.Span) {
	t.Helper()
	end, box, g := flow.Step(f, y, h)
	if g != fine || len(end) != len(y) || len(box) != len(y) {
		t.Fatalf("Step of %v %v %g: %v %v %v", f, y, h, end, box, g)
	}
	if ok, g := flow.Holds(f, y, h, box); !ok || g != fine {
		t.Errorf("Step of %v %v %g: the box %v doesn't hold: %v", f, y, h, box, g)
	}
	for i := range end {
		if !(box[i].Lo <= end[i].Lo && end[i].Lo <= end[i].Hi && end[i].Hi <= box[i].Hi) {
			t.Errorf("Step of %v %v %g: %v doesn't lie in %v", f, y, h, end, box)
		}
	}
	return end, box
}
