package matrix_test

import (
	"math"
	"math/big"
	"reflect"
	"slices"
	"testing"

	"enclosure/api"
)

var inf, nan, least, most = math.Inf(1), math.NaN(), math.SmallestNonzeroFloat64, math.MaxFloat64

// minus is -0, of which the language has no literal.
var minus = math.Copysign(0, -1)

var modes = []int{api.Near, api.Down, api.Up, api.In}

var noModes = []int{0, -1, 5, math.MaxInt, math.MinInt}

var notFinite = []float64{nan, inf, -inf}

// fine is no fault.
var fine = api.Fault{}

func fault(code api.Errno, at int) api.Fault { return api.Fault{Code: code, At: at} }

// rows is a matrix.
type rows = [][]float64

// told fails unless an answer, and its fault, is what it must be.
func told[T any](t *testing.T, what string, of any, got T, err api.Fault, want T, code api.Fault) {
	t.Helper()
	if err != code || !reflect.DeepEqual(got, want) {
		t.Errorf("%s of %v: %v %v, want %v %v", what, of, got, err, want, code)
	}
}

// stream answers words that are spread over all bits, the same ones in each run.
func stream(seed uint64) func() uint64 {
	return func() uint64 {
		seed += 0x9e3779b97f4a7c15
		z := seed
		z = (z ^ z>>30) * 0xbf58476d1ce4e5b9
		z = (z ^ z>>27) * 0x94d049bb133111eb
		return z ^ z>>31
	}
}

// makers make finite floats, each of them of one sort.
func makers(seed uint64) []func() float64 {
	next := stream(seed)
	upTo := func(n uint64) float64 { return float64(next()%(2*n+1)) - float64(n) }
	return []func() float64{
		func() float64 { return upTo(1) }, // often nothing undoes such a matrix
		func() float64 { return upTo(3) },
		func() float64 { return upTo(100) },
		func() float64 { return upTo(1<<53-1) * 0x1p-52 },
		func() float64 { return upTo(3) * least },
		func() float64 { return upTo(1<<52) * 0x1p-563 },
		func() float64 { return upTo(1<<53-1) * 0x1p459 },
		func() float64 { return upTo(4) / 4 * most },
		func() float64 { return 1 + upTo(8)*0x1p-52 },
		func() float64 { return []float64{0, least, 0x1p-1022, 0x1p-500, 1, 0x1p300, most}[next()%7] },
		func() float64 { return math.Float64frombits(next() &^ (1 << 62)) }, // below 2
		func() float64 { return math.Float64frombits((next()>>63<<63 | 1<<62 | next()>>2) &^ (1 << 52)) },
	}
}

// made is a matrix of n rows.
func made(n int, entry func() float64) rows {
	var a rows
	for range n {
		a = append(a, list(n, entry))
	}
	return a
}

func list(n int, entry func() float64) []float64 {
	var l []float64
	for range n {
		l = append(l, entry())
	}
	return l
}

// even is a symmetric one.
func even(n int, entry func() float64) rows {
	a := made(n, entry)
	for i := range a {
		for k := range i {
			a[i][k] = a[k][i]
		}
	}
	return a
}

// diagonal has just l, from one corner to the other.
func diagonal(l ...float64) rows {
	a := made(len(l), func() float64 { return 0 })
	for i, x := range l {
		a[i][i] = x
	}
	return a
}

func copied(a rows) rows {
	var b rows
	for _, row := range a {
		b = append(b, slices.Clone(row))
	}
	return b
}

// rat is just what x is.
func rat(x float64) *big.Rat { return new(big.Rat).SetFloat64(x) }

func plus(x, y *big.Rat) *big.Rat { return new(big.Rat).Add(x, y) }

func less(x, y *big.Rat) *big.Rat { return new(big.Rat).Sub(x, y) }

func times(x, y *big.Rat) *big.Rat { return new(big.Rat).Mul(x, y) }

func over(x, y *big.Rat) *big.Rat { return new(big.Rat).Quo(x, y) }

func abs(x *big.Rat) *big.Rat { return new(big.Rat).Abs(x) }

func rats(l []float64) []*big.Rat {
	var v []*big.Rat
	for _, x := range l {
		v = append(v, rat(x))
	}
	return v
}

// down is the greatest float that isn't above v, or what is infinite and below 0.
func down(v *big.Rat) float64 {
	x, _ := v.Float64()
	if math.IsInf(x, 1) || !math.IsInf(x, -1) && rat(x).Cmp(v) > 0 {
		return math.Nextafter(x, -inf)
	}
	return x
}

// up is the least float that isn't below v, or what is infinite and above 0.
func up(v *big.Rat) float64 { return -down(new(big.Rat).Neg(v)) }

// rounded is v, rounded.
func rounded(v *big.Rat, mode int) float64 {
	switch {
	case mode == api.Near:
		x, _ := v.Float64()
		return x
	case mode == api.Down || mode == api.In && v.Sign() > 0:
		return down(v)
	}
	return up(v)
}

// det is the determinant, by the first row: that of whole numbers, as often as floats
// are steps around 0.
func det(a rows) *big.Rat {
	step := new(big.Int).Lsh(big.NewInt(1), 1074)
	m := make([][]*big.Int, len(a))
	for i, row := range a {
		for _, x := range row {
			m[i] = append(m[i], times(rat(x), new(big.Rat).SetInt(step)).Num())
		}
	}
	low := new(big.Int).Exp(step, big.NewInt(int64(len(a))), nil)
	return new(big.Rat).SetFrac(byFirstRow(m), low)
}

func byFirstRow(m [][]*big.Int) *big.Int {
	if len(m) == 0 {
		return big.NewInt(1)
	}
	sum := new(big.Int)
	for k, x := range m[0] {
		if x.Sign() == 0 {
			continue
		}
		var rest [][]*big.Int
		for _, row := range m[1:] {
			rest = append(rest, slices.Delete(slices.Clone(row), k, k+1))
		}
		v := new(big.Int).Mul(x, byFirstRow(rest))
		if k%2 == 1 {
			v.Neg(v)
		}
		sum.Add(sum, v)
	}
	return sum
}

// counts tells how many numbers that a stretches by are below x, and how many above: by
// squares, made of the sums that a less x tells, one after the other (of which, by
// Sylvester's law, always as many are below 0, and above).
func counts(a rows, x float64) (below, above int) {
	var m [][]*big.Rat
	for i, row := range a {
		m = append(m, rats(row))
		m[i][i] = less(m[i][i], rat(x))
	}
	for len(m) > 0 {
		i := slices.IndexFunc(m, func(row []*big.Rat) bool { return slices.ContainsFunc(row, nonzero) })
		if i < 0 {
			return below, above
		}
		mixed(m, i)
		for p := range m {
			if m[p][p].Sign() != 0 {
				i = p
			}
		}
		if m[i][i].Sign() < 0 {
			below++
		} else {
			above++
		}
		m = squared(m, i)
	}
	return below, above
}

func nonzero(x *big.Rat) bool { return x.Sign() != 0 }

// mixed adds another row to the i-th one, and the column likewise, if all is 0 from one
// corner to the other, so that it isn't there.
func mixed(m [][]*big.Rat, i int) {
	for p := range m {
		if m[p][p].Sign() != 0 {
			return
		}
	}
	k := slices.IndexFunc(m[i], nonzero)
	for p := range m {
		m[i][p] = plus(m[i][p], m[k][p])
	}
	for p := range m {
		m[p][i] = plus(m[p][i], m[p][k])
	}
}

// squared is what is left of m behind the square that the i-th row makes.
func squared(m [][]*big.Rat, i int) [][]*big.Rat {
	var rest [][]*big.Rat
	for p := range m {
		if p == i {
			continue
		}
		share := over(m[p][i], m[i][i])
		var row []*big.Rat
		for q := range m {
			if q != i {
				row = append(row, less(m[p][q], times(share, m[i][q])))
			}
		}
		rest = append(rest, row)
	}
	return rest
}

// spare is l with spare room behind it, in which something stands.
func spare[T any](l []T, more T) []T {
	return append(slices.Clone(l), more, more)[:len(l)]
}

// kept fails unless l, and what stands in the spare room behind it, is what spare made of was.
func kept[T any](t *testing.T, what string, l, was []T, more T) {
	t.Helper()
	if got, want := l[:len(was)+2], append(slices.Clone(was), more, more); !reflect.DeepEqual(got, want) {
		t.Errorf("%s changed what was handed in: %v, was %v", what, got, want)
	}
}
