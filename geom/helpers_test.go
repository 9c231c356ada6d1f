package geom_test

import (
	"math"
	"math/big"
	"slices"
	"testing"

	"enclosure/api"
)

var inf, nan, least, most = math.Inf(1), math.NaN(), math.SmallestNonzeroFloat64, math.MaxFloat64

// minus is -0, of which the language has no literal.
var minus = math.Copysign(0, -1)

var modes = []int{api.Near, api.Down, api.Up, api.In}

var noModes = []int{0, -1, 5, math.MaxInt, math.MinInt}

// fine is no fault.
var fine = api.Fault{}

// notFinite is the fault of a point.
func notFinite(at int) api.Fault { return api.Fault{Code: api.ErrNaN, At: at} }

func pt(x, y float64) api.Point { return api.Point{X: x, Y: y} }

// is fails unless an answer, and its fault, is what it must be.
func is[T comparable](t *testing.T, what string, of any, got T, fault api.Fault, want T, code api.Fault) {
	t.Helper()
	if fault != code || got != want {
		t.Errorf("%s of %v: %v %v, want %v %v", what, of, got, fault, want, code)
	}
}

// stream answers words that are spread over all bits, the same ones in each run.
func stream(seed uint64) func() uint64 {
	return func() uint64 {
		seed += 0x9e3779b97f4a7c15
		z := seed
		z = (z ^ z>>30) * 0xbf58476d1ce4e5b9
		z = (z ^ z>>27) * 0x94d049bb133111eb
		return z ^ z>>31
	}
}

// makers make coordinates, each of them of one sort.
func makers(seed uint64) []func() float64 {
	next := stream(seed)
	whole := func(n uint64) float64 { return float64(next()%(2*n+1)) - float64(n) }
	return []func() float64{
		func() float64 { return whole(1) },
		func() float64 { return whole(4) },
		func() float64 { return whole(1000000) },
		func() float64 { return whole(3) * least },
		func() float64 { return whole(3) * 0x1p-537 },
		func() float64 { return whole(4) / 4 * most },
		func() float64 { return []float64{0, minus, least, -least, 1, -1, 0x1p-53, most, -most}[next()%9] },
		func() float64 { return 1 + whole(8)*0x1p-52 },
		func() float64 { return 0.1 * whole(10) },
		func() float64 { return math.Float64frombits(next() &^ (1 << 62)) }, // below 2
		func() float64 { return math.Float64frombits((next()>>63<<63 | 1<<62 | next()>>2) &^ (1 << 52)) },
	}
}

// figures: lists of n points of each sort, each sort so many times.
func figures(seed uint64, n, times int) [][]api.Point {
	var l [][]api.Point
	for _, one := range makers(seed) {
		for range times {
			l = append(l, points(one, n))
		}
	}
	return l
}

func points(one func() float64, n int) []api.Point {
	l := make([]api.Point, n)
	for i := range l {
		l[i] = pt(one(), one())
	}
	return l
}

// rows: three points nearly in a row, or just so, of many directions and sizes.
func rows(seed uint64, times int) [][]api.Point {
	next := stream(seed)
	var l [][]api.Point
	for i := range times {
		some := func() float64 { return float64(int64(next())>>11) * 0x1p-52 }
		a, b, share := pt(some(), some()), pt(some(), some()), some()
		if i%2 == 0 {
			share = float64(next() % 4)
		}
		c := pt(a.X+share*(b.X-a.X), a.Y+share*(b.Y-a.Y))
		for range next() % 3 {
			c.X = math.Nextafter(c.X, inf)
		}
		for range next() % 3 {
			b.Y = math.Nextafter(b.Y, -inf)
		}
		l = append(l, []api.Point{a, b, c})
	}
	return l
}

// rat is just what x is.
func rat(x float64) *big.Rat { return new(big.Rat).SetFloat64(x) }

func plus(x, y *big.Rat) *big.Rat { return new(big.Rat).Add(x, y) }

func times(x, y *big.Rat) *big.Rat { return new(big.Rat).Mul(x, y) }

// away is just x less y.
func away(x, y float64) *big.Rat { return new(big.Rat).Sub(rat(x), rat(y)) }

// turned is (b.X - a.X)(d.Y - c.Y) - (b.Y - a.Y)(d.X - c.X).
func turned(a, b, c, d api.Point) *big.Rat {
	left := times(away(b.X, a.X), away(d.Y, c.Y))
	return left.Sub(left, times(away(b.Y, a.Y), away(d.X, c.X)))
}

// lies: is x from a to b, or from b to a?
func lies(a, b, x float64) bool { return a <= x && x <= b || b <= x && x <= a }

// touches: does p lie on the way from a to b?
func touches(a, b, p api.Point) bool {
	return turned(a, b, a, p).Sign() == 0 && lies(a.X, b.X, p.X) && lies(a.Y, b.Y, p.Y)
}

// rounded is v in a mode, by the floats on both sides of it.
func rounded(v *big.Rat, mode int) float64 {
	x, _ := v.Float64()
	if mode == api.Near || !math.IsInf(x, 0) && rat(x).Cmp(v) == 0 {
		return x
	}
	below, above := x, x
	if math.IsInf(x, 1) || !math.IsInf(x, -1) && rat(x).Cmp(v) > 0 {
		below = math.Nextafter(x, -inf)
	} else {
		above = math.Nextafter(x, inf)
	}
	if mode == api.Down || mode == api.In && v.Sign() > 0 {
		return below
	}
	return above
}

// many is n points on a bow, with others at some places.
func many(n int, others map[int]api.Point) []api.Point {
	l := make([]api.Point, n)
	for i := range l {
		l[i] = pt(float64(i), float64(i*i))
	}
	for i, p := range others {
		l[i] = p
	}
	return l
}

// badPoints are points with a coordinate that isn't finite.
func badPoints() []api.Point {
	return []api.Point{pt(nan, 0), pt(0, nan), pt(inf, 0), pt(0, inf), pt(-inf, 1), pt(1, -inf), pt(nan, inf)}
}

// badFigures are lists of points with what is said of them.
func badFigures() map[api.Fault][][]api.Point {
	bad := map[api.Fault][][]api.Point{
		{Code: api.ErrMany}: {many(api.MaxPoints+1, nil), many(api.MaxPoints+1, map[int]api.Point{0: pt(nan, 0)}), many(5*api.MaxPoints, map[int]api.Point{200: pt(0, inf)})},
	}
	for _, p := range badPoints() {
		bad[notFinite(0)] = append(bad[notFinite(0)], []api.Point{p}, []api.Point{p, pt(nan, 0)})
		bad[notFinite(2)] = append(bad[notFinite(2)], []api.Point{pt(0, 0), pt(most, -most), p, p, pt(0, 0)})
		last := api.MaxPoints - 1
		bad[notFinite(last)] = append(bad[notFinite(last)], many(api.MaxPoints, map[int]api.Point{last: p}))
	}
	return bad
}

// wrong fails unless an answer of three or four points names the first one that isn't finite.
func wrong[T comparable](t *testing.T, what string, n int, asked func(l []api.Point) (T, api.Fault)) {
	t.Helper()
	var none T
	for i := range n {
		for _, p := range badPoints() {
			l := many(n, map[int]api.Point{i: p})
			got, fault := asked(l)
			is(t, what, l, got, fault, none, notFinite(i))
			for k := i + 1; k < n; k++ {
				l[k] = pt(inf, nan)
			}
			got, fault = asked(l)
			is(t, what, l, got, fault, none, notFinite(i))
		}
	}
}

// spare is l with spare room behind it, in which something stands.
func spare(l []api.Point) []api.Point {
	return slices.Concat(l, []api.Point{pt(7, -7), pt(nan, 8)})[:len(l)]
}

// kept fails unless l, and what stands in the spare room behind it, is what spare made of was.
func kept(t *testing.T, what string, l, was []api.Point) {
	t.Helper()
	got, want := l[:len(was)+2], spare(was)[:len(was)+2]
	for i, p := range want {
		if !alike(got[i].X, p.X) || !alike(got[i].Y, p.Y) {
			t.Errorf("%s changed what was handed in: %v, it was %v", what, got, want)
			return
		}
	}
}

// alike: are x and y the same bit for bit?
func alike(x, y float64) bool { return math.Float64bits(x) == math.Float64bits(y) }
