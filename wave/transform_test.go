package wave_test

import (
	"math"
	"math/big"
	"slices"
	"sync"
	"testing"

	"enclosure/api"
	"enclosure/wave"
)

// number is a complex one, by two whole numbers of parts of 1.
type number [2]*big.Int

func just(z complex128, parts uint) number {
	return number{inParts(real(z), parts), inParts(imag(z), parts)}
}

func (a number) times(b number) number {
	product := func(x, y *big.Int) *big.Int { return new(big.Int).Mul(x, y) }
	x, y := product(a[0], b[0]), product(a[0], b[1])
	return number{x.Sub(x, product(a[1], b[1])), y.Add(y, product(a[1], b[0]))}
}

const allParts = rootParts + floatParts

// turned is n times the chapter's row, of n times l with back; what roots are off by is left to the tests.
func turned(l []complex128, back bool) []number {
	n := len(l)
	exactly := filled(n, func(i int) number { return just(l[i], floatParts) })
	return filled(n, func(k int) number {
		sum := number{new(big.Int), new(big.Int)}
		for i, z := range exactly {
			place := i * k * (64 / n)
			if !back {
				place = -place
			}
			v := z.times(number(roots[place&63]))
			sum[0].Add(sum[0], v[0])
			sum[1].Add(sum[1], v[1])
		}
		return sum
	})
}

// total is the sum of all parts without signs.
func total(l []complex128) *big.Rat {
	sum := new(big.Rat)
	for _, z := range l {
		sum.Add(sum, rat(math.Abs(real(z))))
		sum.Add(sum, rat(math.Abs(imag(z))))
	}
	return sum
}

// power is 2 to the power of -e.
func power(e uint) *big.Rat { return new(big.Rat).SetFrac(big.NewInt(1), shifted(1, e)) }

// checked fails unless what Transform says of l is so.
func checked(t *testing.T, l []complex128, back bool) ([]complex128, float64) {
	t.Helper()
	row, bound, fault := wave.Transform(l, back)
	if fault != fine || len(row) != len(l) || !(bound >= 0) || math.IsInf(bound, 0) {
		t.Fatalf("Transform of %v, %v: %v %v %v", l, back, row, bound, fault)
	}
	sum := total(l)
	allowed := new(big.Rat).Mul(sum, power(40))
	if allowed.Add(allowed, power(900)).Cmp(rat(bound)) < 0 {
		t.Errorf("Transform of %v, %v: the bound %v is too great", l, back, bound)
	}
	// How far it may be off, less what the roots of this test are.
	far := new(big.Rat).Sub(rat(bound), sum.Mul(sum, power(280)))
	for k, want := range turned(l, back) {
		for i, x := range []float64{real(row[k]), imag(row[k])} {
			if math.IsNaN(x) || math.IsInf(x, 0) {
				t.Fatalf("Transform of %v, %v: %v at %d", l, back, row[k], k)
			}
			v := new(big.Rat).SetFrac(want[i], shifted(1, allParts))
			if back {
				v.Mul(v, big.NewRat(1, int64(len(l))))
			}
			v.Sub(v, rat(x))
			if len(l) > 1 && v.Abs(v).Cmp(far) > 0 || len(l) == 1 && v.Abs(v).Cmp(rat(bound)) > 0 {
				t.Errorf("Transform of %v, %v: %v at %d is farther off than %v", l, back, row[k], k, bound)
			}
		}
	}
	return row, bound
}

func TestTransform(t *testing.T) {
	for _, c := range []struct {
		l    []complex128
		back bool
		want []complex128
	}{
		{[]complex128{1, 2, 3, 4}, false, []complex128{10, -2 + 2i, -2, -2 - 2i}},
		{[]complex128{10, -2 + 2i, -2, -2 - 2i}, true, []complex128{1, 2, 3, 4}},
		{[]complex128{0, 1, 0, 0}, false, []complex128{1, -1i, -1, 1i}},
		{[]complex128{0, 4, 0, 0}, true, []complex128{1, 1i, -1, -1i}},
		{[]complex128{3 - 2i}, false, []complex128{3 - 2i}},
		{[]complex128{3 - 2i}, true, []complex128{3 - 2i}},
		{[]complex128{1i, 1}, false, []complex128{1 + 1i, -1 + 1i}},
		{[]complex128{1e100 + 1e100i, -1e100 - 1e100i}, false, []complex128{0, 2e100 + 2e100i}},
		{[]complex128{0, 0}, true, []complex128{0, 0}},
	} {
		got, _ := checked(t, c.l, c.back)
		for k, z := range c.want {
			// Products with roots of so short rows are exact.
			if got[k] != z {
				t.Errorf("Transform of %v, %v: %v, want %v", c.l, c.back, got, c.want)
			}
		}
	}
}

// signals are rows of all lengths, of several kinds each.
func signals(seed uint64, times int) [][]complex128 {
	next := stream(seed)
	part := func() float64 { return math.Float64frombits(next()&(1<<63|1<<52-1) | 1023<<52) }
	sized := func(exp int) float64 { return math.Ldexp(part(), exp) }
	makers := []func() float64{
		func() float64 { return float64(int(next()%7) - 3) },
		part,
		func() float64 { return sized(int(next() % 40)) },
		func() float64 { return sized(int(next()%1400) - 1074) },
		func() float64 { return float64(int(next()%9)-4) * least },
		func() float64 { return sized(-1074 + int(next()%60)) },
		func() float64 { return sized(-1010 + int(next()%60)) },
		func() float64 { return sized(331) },
		func() float64 { return float64(int(next()%3)-1) * 1e100 },
		func() float64 { return []float64{0, 0, 0, 1e100, least, 1, -1}[next()%7] },
	}
	var l [][]complex128
	for _, n := range lengths {
		for i, made := range makers {
			other := makers[(i+int(next()%2))%len(makers)]
			for range times {
				l = append(l, filled(n, func(int) complex128 { return complex(made(), other()) }))
				l = append(l, with(make([]complex128, n), int(next()%uint64(n)), complex(made(), 0)))
			}
		}
		l = append(l, filled(n, func(int) complex128 { return 1e100 + 1e100i }))
		l = append(l, filled(n, func(int) complex128 { return complex(least, -least) }))
	}
	return l
}

func TestTransformIsNoFartherThanItSays(t *testing.T) {
	for _, l := range signals(5, 3) {
		checked(t, l, false)
		checked(t, l, true)
	}
}

// TestWaves: what goes round with a root is found at its place alone, which is the
// greatest sum there is.
func TestWaves(t *testing.T) {
	unit := with(make([]complex128, api.MaxWave), 1, 1)
	turns, _ := checked(t, unit, false)
	for k := range api.MaxWave {
		l := filled(api.MaxWave, func(i int) complex128 { return turns[i*k%api.MaxWave] })
		got, bound := checked(t, l, true)
		for i, z := range got {
			want := 0.0
			if i == k {
				want = 1
			}
			if math.Abs(real(z)-want) > bound+0x1p-50 || math.Abs(imag(z)) > bound+0x1p-50 {
				t.Errorf("wave %d: %v at %d", k, z, i)
			}
		}
		checked(t, l, false)
	}
}

// TestRootsAreRounded: nothing is added to the second number of the row where all
// others are 0: so the roots themselves are to be seen.
func TestRootsAreRounded(t *testing.T) {
	for _, n := range lengths[1:] {
		for _, back := range []bool{false, true} {
			unit := with(make([]complex128, n), 1, 1)
			if back {
				unit[1] = complex(float64(n), 0)
			}
			got, _ := checked(t, unit, back)
			for k, z := range got {
				place := k * (64 / n)
				if !back {
					place = -place
				}
				root := roots[place&63]
				for i, x := range []float64{real(z), imag(z)} {
					v := new(big.Float).SetPrec(400).SetInt(root[i])
					v.SetMantExp(v, -rootParts)
					want, _ := v.Float64()
					if math.Abs(want) < 0x1p-200 {
						want = 0
					}
					if x != want {
						t.Errorf("root %d of %d, %v: %v, want %v", k, n, back, x, want)
					}
				}
			}
		}
	}
}

func TestNothingIsNotFarOff(t *testing.T) {
	for _, n := range lengths {
		for _, back := range []bool{false, true} {
			got, bound := checked(t, make([]complex128, n), back)
			if !slices.Equal(got, make([]complex128, n)) || bound > 0x1p-900 {
				t.Errorf("Transform of %d noughts: %v %v", n, got, bound)
			}
		}
	}
	for _, z := range []complex128{0, 1e100 - 1e100i, complex(least, 0.1)} {
		for _, back := range []bool{false, true} {
			if got, bound := checked(t, []complex128{z}, back); got[0] != z || bound != 0 {
				t.Errorf("Transform of %v alone: %v %v", z, got, bound)
			}
		}
	}
}

// TestBoundIsTheShownOne: what is off is mostly far less than what is shown of it, so
// that a lesser bound would hardly be seen to be wrong.
func TestBoundIsTheShownOne(t *testing.T) {
	for _, l := range signals(8, 2) {
		for _, back := range []bool{false, true} {
			n := int64(len(l))
			want := new(big.Rat).Add(total(l), power(950))
			want.Mul(want, power(50)).Mul(want, big.NewRat(n-1, 1))
			if back {
				want.Mul(want, big.NewRat(1, n))
			}
			_, bound, _ := wave.Transform(l, back)
			if rat(bound).Cmp(want) < 0 || rat(math.Nextafter(bound, -inf)).Cmp(want) >= 0 {
				t.Errorf("Transform of %v, %v: the bound %v, want %v, rounded up", l, back, bound, want)
			}
		}
	}
}

// TestBackAgain: what is transformed there and back is off by both bounds, no more
// (the first one's error is brought back by numbers whose parts go up to root 2).
func TestBackAgain(t *testing.T) {
	for _, l := range signals(6, 2) {
		there, first, _ := wave.Transform(l, false)
		row := slices.Clone(there)
		for _, z := range there {
			if math.Abs(real(z)) > 1e100 || math.Abs(imag(z)) > 1e100 {
				row = nil
			}
		}
		if row == nil {
			continue
		}
		again, second, fault := wave.Transform(row, true)
		if fault != fine {
			t.Fatalf("Transform of %v: %v", row, fault)
		}
		far := 1.5*first + second
		for i, z := range again {
			x, y := rat(real(z)), rat(imag(z))
			x.Sub(x, rat(real(l[i])))
			y.Sub(y, rat(imag(l[i])))
			if x.Abs(x).Cmp(rat(far)) > 0 || y.Abs(y).Cmp(rat(far)) > 0 {
				t.Errorf("there and back of %v: %v at %d", l, z, i)
			}
		}
	}
}

func TestWrongSignals(t *testing.T) {
	over := math.Nextafter(1e100, inf)
	wrong := map[complex128]api.Errno{
		complex(inf, 0):      api.ErrNaN,
		complex(0, -inf):     api.ErrNaN,
		complex(inf, 2e100):  api.ErrNaN,
		complex(over, 0):     api.ErrRange,
		complex(-over, 0):    api.ErrRange,
		complex(0, over):     api.ErrRange,
		complex(0, -over):    api.ErrRange,
		complex(most, inf):   api.ErrRange, // the real part is told first
		complex(-2e100, nan): api.ErrRange,
		complex(1, -most):    api.ErrRange,
		complex(1e100, nan):  api.ErrNaN,
		complex(nan, 2e100):  api.ErrNaN,
		complex(nan, nan):    api.ErrNaN,
		complex(nan, 0):      api.ErrNaN,
		complex(-1e100, inf): api.ErrNaN,
	}
	says := func(l []complex128, want api.Fault) {
		t.Helper()
		for _, back := range []bool{false, true} {
			if got, bound, fault := wave.Transform(l, back); got != nil || bound != 0 || fault != want {
				t.Errorf("Transform of %v: %v %v %v, want %v", l, got, bound, fault, want)
			}
		}
	}
	for z, code := range wrong {
		for _, n := range lengths {
			for i := range n {
				l := with(with(make([]complex128, n), n-1, complex(2e100, 0)), i, z)
				says(l, at(code, i))
				says(with(with(l, n-1, complex(inf, inf)), i, z), at(code, i))
			}
		}
	}
	says(nil, at(api.ErrShape, 0))
	for _, n := range noLengths {
		says(make([]complex128, n), at(api.ErrShape, 0))
		says(filled(n, func(int) complex128 { return complex(nan, 0) }), at(api.ErrShape, 0))
	}
}

// TestTransformAtATime: whoever asks first, all have the same roots.
func TestTransformAtATime(t *testing.T) {
	all := signals(7, 1)
	rows := make([][][]complex128, 8)
	var callers sync.WaitGroup
	for i := range rows {
		callers.Go(func() {
			for k := range all {
				row, _, _ := wave.Transform(all[(k+i*20)%len(all)], i%2 == 0)
				rows[i] = append(rows[i], row)
			}
		})
	}
	callers.Wait()
	for i, some := range rows {
		for k, row := range some {
			if want, _, _ := wave.Transform(all[(k+i*20)%len(all)], i%2 == 0); !slices.Equal(row, want) {
				t.Errorf("Transform: %v and %v", row, want)
			}
		}
	}
}
