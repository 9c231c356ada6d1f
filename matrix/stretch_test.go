package matrix_test

import (
	"math"
	"math/big"
	"slices"
	"testing"

	"enclosure/api"
	"enclosure/matrix"
)

// golden is 0 1, 1 1, which stretches by two numbers that are no fractions.
var golden = rows{{0, 1}, {1, 1}}

func TestBelow(t *testing.T) {
	ones := made(6, func() float64 { return 1 }) // 0, five times, and 6
	for _, c := range []struct {
		a    rows
		x    float64
		want int
	}{
		{rows{{2, 1}, {1, 2}}, 3, 1},
		{rows{{2, 1}, {1, 2}}, 1, 0},
		{rows{{2, 1}, {1, 2}}, 1 + 0x1p-52, 1},
		{rows{{2, 1}, {1, 2}}, 3 + 0x1p-51, 2},
		{rows{{2, 1}, {1, 2}}, -most, 0},
		{rows{{2, 1}, {1, 2}}, most, 2},
		{rows{{5}}, 5, 0},
		{rows{{5}}, 6, 1},
		{rows{{-5}}, -5, 0},
		{rows{{-5}}, 0, 1},
		{rows{{0}}, 0, 0},
		{rows{{0}}, least, 1},
		{rows{{minus}}, minus, 0},
		{rows{{-least}}, minus, 1},
		{rows{{0, 1}, {1, 0}}, 0, 1},
		{rows{{0, 1}, {1, 0}}, -1, 0},
		{rows{{0, 1}, {1, 0}}, 1, 1},
		{golden, 1.6180339887498947, 1},
		{golden, 1.618033988749895, 2},
		{golden, -0.6180339887498948, 1},
		{golden, -0.6180339887498949, 0},
		{diagonal(0, 0, 0, 0, 0, 0), 0, 0},
		{diagonal(0, 0, 0, 0, 0, 0), least, 6},
		{diagonal(3, 1, 2, 3, -4, 3), 3, 3},
		{diagonal(3, 1, 2, 3, -4, 3), 3.0000000000000004, 6},
		{ones, 0, 0},
		{ones, least, 5},
		{ones, 6, 5},
		{ones, 7, 6},
		{diagonal(most, -most), most, 1},
		{diagonal(most, -most), -most, 0},
		{rows{{most, most}, {most, most}}, most, 1},
		{rows{{-most, most}, {most, -most}}, -most, 1},
		{rows{{most, least}, {least, -most}}, most, 1}, // a bit above it
		{rows{{most, least}, {least, -most}}, -most, 1},
	} {
		got, err := matrix.Below(c.a, c.x)
		told(t, "Below", []any{c.a, c.x}, got, err, c.want, fine)
	}
}

func TestBelowByTheChaptersWords(t *testing.T) {
	seen := map[int]int{}
	for _, entry := range makers(5) {
		for n := range api.MaxSize {
			for range 3 {
				a := even(n+1, entry)
				for _, x := range []float64{0, entry(), a[0][n], a[n][n], -most, most} {
					want, _ := counts(a, x)
					got, err := matrix.Below(a, x)
					told(t, "Below", []any{a, x}, got, err, want, fine)
					seen[got]++
				}
			}
		}
	}
	for n := range api.MaxSize + 1 {
		if seen[n] < 5 {
			t.Errorf("%d numbers below: only %d times", n, seen[n])
		}
	}
}

func TestBelowOfWrongNumbers(t *testing.T) {
	for _, x := range notFinite {
		for n := range api.MaxSize {
			a := diagonal(1, 2, 3, 4, 5, 6)[:n+1]
			for i := range a {
				a[i] = a[i][:n+1]
			}
			got, err := matrix.Below(a, x)
			told(t, "Below", []any{a, x}, got, err, 0, fault(api.ErrNaN, n+1))
		}
	}
}

// unevens are matrices that aren't symmetric.
func unevens() []bad {
	return []bad{
		{rows{{1, 2}, {3, 4}}, fault(api.ErrForm, 0)},
		{rows{{1, most}, {-most, 4}}, fault(api.ErrForm, 0)},
		{rows{{1, 0}, {least, 4}}, fault(api.ErrForm, 0)},
		{rows{{1, 1}, {1 + 0x1p-52, 4}}, fault(api.ErrForm, 0)},
		{rows{{1, 2, 3}, {2, 4, 5}, {9, 5, 6}}, fault(api.ErrForm, 0)},
		{rows{{1, 2, 3}, {2, 4, 5}, {3, 9, 6}}, fault(api.ErrForm, 1)},
		{rows{{1, 2, 3}, {2, 4, 5}, {9, 9, 6}}, fault(api.ErrForm, 0)},
		{rows{{1, 2, 3, 4}, {2, 5, 6, 7}, {3, 6, 8, 9}, {4, 7, -9, 0}}, fault(api.ErrForm, 2)},
		{rows{{1, 0, 0, 0, 0, 0}, {0, 1, 0, 0, 0, 0}, {0, 0, 1, 0, 0, 0}, {0, 0, 0, 1, 0, 0}, {0, 0, 0, 0, 1, least}, {0, 0, 0, 0, 0, 1}}, fault(api.ErrForm, 4)},
		{rows{{2e300, 2}, {3, 4}}, fault(api.ErrForm, 0)}, // and too great
	}
}

func TestSymmetricOnesAlone(t *testing.T) {
	for _, c := range append(wrongs(), unevens()...) {
		for _, x := range []float64{0, nan} {
			n, err := matrix.Below(c.a, x)
			told(t, "Below", []any{c.a, x}, n, err, 0, c.err)
			for _, v := range [][]float64{nil, {1, 2}, {0, 0}, {nan, 1}} {
				d, err := matrix.Near(c.a, v, x)
				told(t, "Near", []any{c.a, v, x}, d, err, 0, c.err)
			}
		}
		l, err := matrix.Stretches(c.a)
		told(t, "Stretches", c.a, l, err, nil, c.err)
	}
	if _, err := matrix.Stretches(rows{{1, 0}, {minus, 2}}); err != fine {
		t.Errorf("Stretches of 1 0, -0 2: %v", err)
	}
}

// ofAll is one of each l.
func ofAll(l ...float64) []api.Span {
	var m []api.Span
	for _, x := range l {
		m = append(m, one(x))
	}
	return m
}

// upper is the span from x to the next float.
func upper(x float64) api.Span { return from(x, math.Nextafter(x, inf)) }

func TestStretches(t *testing.T) {
	big := 1e300
	for _, c := range []struct {
		a    rows
		want []api.Span
	}{
		{rows{{2, 1}, {1, 2}}, ofAll(1, 3)},
		{rows{{7}}, ofAll(7)},
		{rows{{-0.1}}, ofAll(-0.1)},
		{rows{{0}}, ofAll(0)},
		{rows{{minus}}, ofAll(0)},
		{rows{{least}}, ofAll(least)},
		{rows{{-least}}, ofAll(-least)},
		{rows{{0, 1}, {1, 0}}, ofAll(-1, 1)},
		{golden, []api.Span{upper(-0.6180339887498949), from(1.6180339887498947, 1.618033988749895)}},
		{rows{{0, 1}, {1, -1}}, []api.Span{from(-1.618033988749895, -1.6180339887498947), from(0.6180339887498948, 0.6180339887498949)}},
		{rows{{1, 1}, {1, 1}}, ofAll(0, 2)},
		{diagonal(3, 1, 2, 3, -4, 3), ofAll(-4, 1, 2, 3, 3, 3)},
		{diagonal(0, 0, 0, 0, 0, 0), ofAll(0, 0, 0, 0, 0, 0)},
		{made(6, func() float64 { return 1 }), ofAll(0, 0, 0, 0, 0, 6)},
		{made(6, func() float64 { return -0.5 }), ofAll(-3, 0, 0, 0, 0, 0)},
		{rows{{2, 3}, {3, -6}}, ofAll(-7, 3)},
		{rows{{1, least}, {least, 1}}, []api.Span{from(1-0x1p-53, 1), upper(1)}},
		{rows{{0, least}, {least, 0}}, ofAll(-least, least)},
		{rows{{least, least}, {least, 0}}, []api.Span{from(-least, 0), from(least, 2*least)}},
		{rows{{1, 0x1p-500}, {0x1p-500, 0}}, []api.Span{from(-0x1p-1000, -0x1.fffffffffffffp-1001), upper(1)}},
		{diagonal(big, -big), ofAll(-big, big)},
		{rows{{0, big}, {big, 0}}, ofAll(-big, big)},
		{rows{{big, big}, {big, big}}, ofAll(0, 2*big)},
		{diagonal(big, least, -big, -least, 0, 1), ofAll(-big, -least, 0, least, 1, big)},
	} {
		got, err := matrix.Stretches(c.a)
		told(t, "Stretches", c.a, unsigned(got), err, c.want, fine)
	}
}

func TestStretchesOfGreatEntries(t *testing.T) {
	next := math.Nextafter(1e300, inf)
	for _, a := range []rows{{{next}}, {{-next}}, {{most}}, {{1, next}, {next, 2}}, {{1, 2}, {2, -next}}, diagonal(0, 0, 0, 0, 0, most)} {
		got, err := matrix.Stretches(a)
		told(t, "Stretches", a, got, err, nil, fault(api.ErrRange, 0))
		if _, err := matrix.Below(a, 1); err != fine {
			t.Errorf("Below of %v: %v", a, err)
		}
	}
	for _, x := range []float64{1e300, -1e300} {
		a := made(6, func() float64 { return x })
		got, err := matrix.Stretches(a)
		lowest, highest := rounded(times(rat(x), big.NewRat(6, 1)), api.Down), rounded(times(rat(x), big.NewRat(6, 1)), api.Up)
		want := append(ofAll(0, 0, 0, 0, 0), from(lowest, highest))
		if x < 0 {
			want = append(want[5:], want[:5]...)
		}
		told(t, "Stretches", a, unsigned(got), err, want, fine)
	}
}

// fits fails unless the k-th number by which a stretches, from 0 on, is told by s as
// the chapter says it.
func fits(t *testing.T, a rows, k int, s api.Span) {
	t.Helper()
	below, above := counts(a, s.Lo)
	switch {
	case s.Lo == s.Hi && below <= k && k < len(a)-above: // just Lo
	case math.Nextafter(s.Lo, inf) == s.Hi && k >= len(a)-above:
		if below, _ = counts(a, s.Hi); below > k { // between both
			return
		}
		fallthrough
	default:
		t.Errorf("Stretches of %v: the number %d isn't in %v as it must be", a, k, s)
	}
}

func TestStretchesByTheChaptersWords(t *testing.T) {
	for i, entry := range makers(6) {
		if i == 7 {
			continue // of most
		}
		for n := range api.MaxSize {
			a := even(n+1, func() float64 { return within(entry()) })
			got, err := matrix.Stretches(a)
			if err != fine || len(got) != n+1 {
				t.Errorf("Stretches of %v: %v %v", a, got, err)
				continue
			}
			for k, s := range got {
				fits(t, a, k, s)
			}
		}
	}
}

// within is x, but nothing beyond 1e300.
func within(x float64) float64 { return max(min(x, 1e300), -1e300) }

// mirrored is diagonal(l), turned by a mirror that floats tell exactly, so that it stays
// symmetric and stretches by l.
func mirrored(l ...float64) rows {
	n := len(l)
	a := made(n, func() float64 { return 0 })
	for i := range n {
		for k := range n {
			for p := range n {
				a[i][k] += mirror(i, p) * l[p] * mirror(p, k)
			}
		}
	}
	return a
}

// mirror turns the first four ones: it is one less the half of ones.
func mirror(i, k int) float64 {
	x := 0.0
	if i == k {
		x = 1
	}
	if i < 4 && k < 4 {
		x -= 0.5
	}
	return x
}

func TestStretchesOfWhatIsTurned(t *testing.T) {
	next := stream(7)
	for round := range 60 {
		n := 4 + round%3
		l := list(n, func() float64 { return float64(next()%9) - 4 }) // some more than once
		if round%3 == 0 {
			l = list(n, func() float64 { return float64(next()%(1<<48)) - 1<<47 })
		}
		a := mirrored(l...)
		slices.Sort(l)
		got, err := matrix.Stretches(a)
		told(t, "Stretches", a, unsigned(got), err, ofAll(l...), fine)
		for k, x := range l {
			below, _ := matrix.Below(a, x)
			if want := slices.Index(l, x); below != want {
				t.Errorf("Below of %v and %v: %d, want %d", a, x, below, want)
			}
			below, _ = matrix.Below(a, math.Nextafter(x, inf))
			if below <= k {
				t.Errorf("Below of %v, right above %v: %d", a, x, below)
			}
		}
	}
}

// In a row of which each has a spring to the next one, it is known: 2 - 2 cos of so
// many parts of half a turn.
func TestStretchesOfSprings(t *testing.T) {
	a := diagonal(2, 2, 2, 2, 2, 2)
	for i := range 5 {
		a[i][i+1], a[i+1][i] = -1, -1
	}
	got, err := matrix.Stretches(a)
	if err != fine || len(got) != 6 {
		t.Fatal(got, err)
	}
	for k, s := range got {
		want := 2 - 2*math.Cos(float64(k+1)*math.Pi/7)
		if math.Abs(s.Lo-want) > 1e-15 || s.Hi != math.Nextafter(s.Lo, inf) {
			t.Errorf("number %d: %v, near %v", k, s, want)
		}
	}
}

func TestNear(t *testing.T) {
	a := rows{{2, 1}, {1, 2}}
	for _, c := range []struct {
		a    rows
		v    []float64
		x    float64
		want float64
	}{
		{a, []float64{1, 1}, 3.5, 0.5},
		{a, []float64{1, 1}, 3, 0},
		{a, []float64{-7, 7}, 1, 0},
		{a, []float64{1, -1}, 0.25, 0.75},
		{a, []float64{1, 0}, 2, 1},
		{a, []float64{1, 0}, 1, math.Nextafter(math.Sqrt2, 0) + 0x1p-52},
		{a, []float64{least, least}, 3.5, 0.5},
		{a, []float64{most, most}, 3.5, 0.5},
		{a, []float64{0, least}, 2, 1},
		{rows{{5}}, []float64{0.1}, 3, 2},
		{rows{{5}}, []float64{-3}, 7, 2},
		{rows{{0}}, []float64{1}, 0, 0},
		{rows{{0}}, []float64{1}, minus, 0},
		{rows{{least}}, []float64{3}, 0, least},
		{rows{{least, 0}, {0, 0}}, []float64{1, 1}, 0, least},            // 0.7 of it
		{rows{{1, 0}, {0, 0}}, []float64{1, most}, 0, 0x1p-1024 + least}, // a bit above 0x1p-1024
		{rows{{1}}, []float64{1}, -least, 1 + 0x1p-52},
		{rows{{most}}, []float64{1}, 0, most},
		{rows{{most}}, []float64{least}, -least, inf},
		{rows{{most}}, []float64{1}, -most, inf},
		{rows{{-most, -most}, {-most, -most}}, []float64{1, 1}, most, inf},
		{diagonal(1, 2, 3, 4, 5, 6), []float64{0, 0, 0, 0, 3, 0}, 5.5, 0.5},
		{diagonal(3, 3, 3, 3, 3, 3), []float64{1, 2, 3, 4, 5, 6}, 2, 1},
	} {
		got, err := matrix.Near(c.a, c.v, c.x)
		told(t, "Near", []any{c.a, c.v, c.x}, got, err, c.want, fine)
	}
}

func TestNearByTheChaptersWords(t *testing.T) {
	infinite := 0
	for i, entry := range makers(8) {
		for _, part := range []func() float64{entry, makers(9)[i], makers(10)[(i+5)%len(makers(1))]} {
			for n := range api.MaxSize {
				a, v, x := even(n+1, entry), list(n+1, part), entry()
				if n%2 == 0 {
					x = part()
				}
				got, err := matrix.Near(a, v, x)
				if !slices.ContainsFunc(v, func(x float64) bool { return x != 0 }) {
					told(t, "Near", []any{a, v, x}, got, err, 0, fault(api.ErrZero, n+1))
					continue
				}
				if square := missed(a, v, x); err != fine || !isRootUp(got, square) {
					t.Errorf("Near of %v, %v and %v: %v %v", a, v, x, got, err)
				}
				if got == inf {
					infinite++
				} else {
					hasOneWithin(t, a, x, got)
				}
			}
		}
	}
	if infinite < 5 {
		t.Errorf("only %d are infinite", infinite)
	}
}

// missed is the square of what Near tells.
func missed(a rows, v []float64, x float64) *big.Rat {
	above, low := new(big.Rat), new(big.Rat)
	for i, row := range a {
		off := less(sumOf(row, rats(v)), times(rat(x), rat(v[i])))
		above, low = plus(above, times(off, off)), plus(low, times(rat(v[i]), rat(v[i])))
	}
	return over(above, low)
}

// isRootUp: is x the least float that isn't below the root of square?
func isRootUp(x float64, square *big.Rat) bool {
	reaches := func(x float64) bool { return x == inf || times(rat(x), rat(x)).Cmp(square) >= 0 }
	return x >= 0 && reaches(x) && (x == 0 || !reaches(math.Nextafter(x, 0)))
}

// hasOneWithin fails unless a stretches by a number no farther than d from x.
func hasOneWithin(t *testing.T, a rows, x, d float64) {
	t.Helper()
	lo, hi := down(less(rat(x), rat(d))), up(plus(rat(x), rat(d)))
	if math.IsInf(lo, 0) || math.IsInf(hi, 0) {
		return
	}
	below, _ := counts(a, lo)
	if _, above := counts(a, hi); below+above == len(a) {
		t.Errorf("%v stretches by nothing from %v to %v", a, lo, hi)
	}
}

func TestNearOfWrongLists(t *testing.T) {
	a := rows{{2, 1}, {1, 2}}
	for _, c := range []struct {
		a    rows
		v    []float64
		x    float64
		want api.Fault
	}{
		{a, nil, 1, fault(api.ErrShape, 0)}, {a, []float64{}, 1, fault(api.ErrShape, 0)}, {a, []float64{1}, 1, fault(api.ErrShape, 0)}, {a, []float64{1, 2, 3}, 1, fault(api.ErrShape, 0)},
		{a, []float64{nan}, nan, fault(api.ErrShape, 0)}, {a, []float64{0, 0, 0}, 1, fault(api.ErrShape, 0)},
		{a, []float64{nan, 1}, 1, fault(api.ErrNaN, 2)}, {a, []float64{1, inf}, 1, fault(api.ErrNaN, 2)}, {a, []float64{1, 2}, nan, fault(api.ErrNaN, 2)},
		{a, []float64{1, 2}, inf, fault(api.ErrNaN, 2)}, {a, []float64{1, 2}, -inf, fault(api.ErrNaN, 2)}, {a, []float64{0, 0}, inf, fault(api.ErrNaN, 2)}, {a, []float64{0, -inf}, 1, fault(api.ErrNaN, 2)},
		{a, []float64{0, 0}, 1, fault(api.ErrZero, 2)}, {a, []float64{minus, 0}, 1, fault(api.ErrZero, 2)}, {rows{{5}}, []float64{0}, 5, fault(api.ErrZero, 1)},
		{diagonal(0, 0, 0, 0, 0, 0), make([]float64, 6), 0, fault(api.ErrZero, 6)}, {rows{{5}}, []float64{nan}, 5, fault(api.ErrNaN, 1)},
	} {
		got, err := matrix.Near(c.a, c.v, c.x)
		told(t, "Near", []any{c.a, c.v, c.x}, got, err, 0, c.want)
	}
}
