package disc_test

import (
	"math"
	"math/big"
	"slices"
	"testing"

	"enclosure/api"
)

var inf, nan, least, most = math.Inf(1), math.NaN(), math.SmallestNonzeroFloat64, math.MaxFloat64

// minus is -0, of which the language has no literal.
var minus = math.Copysign(0, -1)

// fine is no fault.
var fine = api.Fault{}

func fault(code api.Errno, at int) api.Fault { return api.Fault{Code: code, At: at} }

func at(mid complex128, r float64) api.Disc { return api.Disc{Mid: mid, R: r} }

// told fails unless an answer, and the error beside it, is what it must be.
func told[T, E comparable](t *testing.T, what string, of any, got T, err E, want T, code E) {
	t.Helper()
	if err != code || got != want {
		t.Errorf("%s of %v: %v %v, want %v %v", what, of, got, err, want, code)
	}
}

// toldAll is told of lists.
func toldAll[T comparable](t *testing.T, what string, of any, got []T, err api.Fault, want []T, code api.Fault) {
	t.Helper()
	if err != code || !slices.Equal(got, want) {
		t.Errorf("%s of %v: %v %v, want %v %v", what, of, got, err, want, code)
	}
}

func finite(z complex128) bool { return whole(real(z)) && whole(imag(z)) }

func whole(x float64) bool { return !math.IsNaN(x) && !math.IsInf(x, 0) }

// notFinite are numbers of all kinds that aren't.
var notFinite = []complex128{complex(nan, 0), complex(0, nan), complex(inf, 0), complex(1, -inf), complex(-inf, nan), complex(nan, inf)}

// stream answers words that are spread over all bits, the same ones in each run.
func stream(seed uint64) func() uint64 {
	return func() uint64 {
		seed += 0x9e3779b97f4a7c15
		z := seed
		z = (z ^ z>>30) * 0xbf58476d1ce4e5b9
		z = (z ^ z>>27) * 0x94d049bb133111eb
		return z ^ z>>31
	}
}

// makers make parts that are finite, each of them of one sort.
func makers(seed uint64) []func() float64 {
	next := stream(seed)
	upTo := func(n uint64) float64 { return float64(next()%(2*n+1)) - float64(n) }
	return []func() float64{
		func() float64 { return upTo(2) },
		func() float64 { return upTo(20) },
		func() float64 { return upTo(1<<53-1) * 0x1p-52 },
		func() float64 { return upTo(3) * least },
		func() float64 { return upTo(1<<52) * 0x1p-563 }, // squares are about the least ones
		func() float64 { return upTo(1<<53-1) * 0x1p459 },
		func() float64 { return upTo(4) / 4 * most },
		func() float64 { return 1 + upTo(8)*0x1p-52 },
		func() float64 { return []float64{0, least, 0x1p-1022, 0x1p-500, 1, 0x1p300, most}[next()%7] },
		func() float64 { return math.Float64frombits(next() &^ (1 << 62)) }, // below 2
		func() float64 { return math.Float64frombits((next()>>63<<63 | 1<<62 | next()>>2) &^ (1 << 52)) },
	}
}

// discs: middles with parts of each two sorts, radii of any; each two so many times.
func discs(seed uint64, times int) []api.Disc {
	var l []api.Disc
	all, next := makers(seed), stream(seed)
	for _, x := range all {
		for _, y := range all {
			for range times {
				r := all[next()%uint64(len(all))]
				l = append(l, at(complex(x(), y()), math.Abs(r())))
			}
		}
	}
	return l
}

// numbers are n of each sort: some with both parts of it, some with one.
func numbers(n int, part func() float64) []complex128 {
	l := make([]complex128, n)
	for i := range l {
		l[i] = complex(part(), part())
		if i%3 == 2 {
			l[i] = complex(part(), 0)
		}
	}
	return l
}

// product is the polynomial with these roots, as floats reckon it: exactly, if all are small.
func product(roots ...complex128) []complex128 {
	p := []complex128{1}
	for _, z := range roots {
		q := append([]complex128{0}, p...)
		for i, c := range p {
			q[i] -= c * z
		}
		p = q
	}
	return p
}

// rat is just what x is.
func rat(x float64) *big.Rat { return new(big.Rat).SetFloat64(x) }

func plus(x, y *big.Rat) *big.Rat { return new(big.Rat).Add(x, y) }

func less(x, y *big.Rat) *big.Rat { return new(big.Rat).Sub(x, y) }

func times(x, y *big.Rat) *big.Rat { return new(big.Rat).Mul(x, y) }

func over(x, y *big.Rat) *big.Rat { return new(big.Rat).Quo(x, y) }

// exactly is a complex number by two fractions.
type exactly struct{ x, y *big.Rat }

func just(z complex128) exactly { return exactly{rat(real(z)), rat(imag(z))} }

func (v exactly) plus(w exactly) exactly { return exactly{plus(v.x, w.x), plus(v.y, w.y)} }

func (v exactly) less(w exactly) exactly { return exactly{less(v.x, w.x), less(v.y, w.y)} }

func (v exactly) times(w exactly) exactly {
	return exactly{less(times(v.x, w.x), times(v.y, w.y)), plus(times(v.x, w.y), times(v.y, w.x))}
}

func (v exactly) norm() *big.Rat { return plus(times(v.x, v.x), times(v.y, v.y)) }

// rounded is a complex number, rounded, by chapter 7's words.
func (v exactly) rounded() complex128 {
	x, _ := v.x.Float64()
	y, _ := v.y.Float64()
	if math.IsInf(x, 0) || math.IsInf(y, 0) {
		return complex(inf, 0)
	}
	return complex(x, y)
}

// up is the least float that isn't below v.
func up(v *big.Rat) float64 {
	x, _ := v.Float64()
	if whole(x) && rat(x).Cmp(v) < 0 {
		return math.Nextafter(x, inf)
	}
	return x
}

// rootUp is the least float that isn't below the root of v.
func rootUp(v *big.Rat) float64 {
	r := new(big.Float).SetPrec(200).SetRat(v)
	x, _ := r.Sqrt(r).Float64()
	reaches := func(x float64) bool { return math.IsInf(x, 1) || times(rat(x), rat(x)).Cmp(v) >= 0 }
	for !reaches(x) {
		x = math.Nextafter(x, inf)
	}
	for x > 0 && reaches(math.Nextafter(x, 0)) {
		x = math.Nextafter(x, 0)
	}
	return x
}

// spare is l with spare room behind it, in which something stands.
func spare[T any](l []T, more T) []T {
	return append(slices.Clone(l), more, more)[:len(l)]
}

// kept fails unless l, and what stands in the spare room behind it, is what spare made of was.
func kept[T comparable](t *testing.T, what string, l, was []T, more T) {
	t.Helper()
	if got, want := l[:len(was)+2], append(slices.Clone(was), more, more); !slices.Equal(got, want) {
		t.Errorf("%s changed what was handed in: %v, was %v", what, got, want)
	}
}
