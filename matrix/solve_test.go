package matrix_test

import (
	"math"
	"math/big"
	"testing"

	"enclosure/api"
	"enclosure/matrix"
)

func TestDetOfOrdinaryMatrices(t *testing.T) {
	for _, c := range []struct {
		a    rows
		want float64
	}{
		{rows{{2, 1}, {1, 3}}, 5},
		{rows{{1, 2}, {3, 4}}, -2},
		{rows{{1, 2}, {2, 4}}, 0},
		{rows{{7}}, 7},
		{rows{{-0.1}}, -0.1},
		{rows{{0}}, 0},
		{rows{{minus}}, 0},
		{rows{{0, 1}, {1, 0}}, -1},
		{rows{{0, 1, 0}, {0, 0, 1}, {1, 0, 0}}, 1},
		{rows{{0, 0, 1}, {0, 1, 0}, {1, 0, 0}}, -1},
		{rows{{0, 2, 3}, {0, 5, 7}, {0, 11, 13}}, 0},
		{rows{{1, 2, 3}, {4, 5, 6}, {7, 8, 10}}, -3},
		{rows{{1, 5, -7, 9}, {0, 2, 0.5, 3}, {0, 0, 3, 100}, {0, 0, 0, 4}}, 24},
		{rows{{0, 0, 0, 0, 2}, {3, 0, 0, 0, 0}, {0, 5, 0, 0, 0}, {0, 0, 7, 0, 0}, {0, 0, 0, 11, 0}}, 2310},
		{diagonal(1, 2, 3, 4, 5, 6), 720},
		{rows{{0, 0, 0, 0, 0, 1}, {1, 0, 0, 0, 0, 0}, {0, 1, 0, 0, 0, 0}, {0, 0, 1, 0, 0, 0}, {0, 0, 0, 1, 0, 0}, {0, 0, 0, 0, 1, 0}}, -1},
		{rows{{1e16, 1e16 + 2}, {1e16 - 2, 1e16}}, 4}, // floats tell 0
		{diagonal(least, most), 0x1p-50 - 0x1p-103},
	} {
		for _, mode := range modes {
			got, err := matrix.Det(c.a, mode)
			told(t, "Det", []any{c.a, mode}, got+0, err, c.want, fine)
		}
	}
}

func TestDetIsRounded(t *testing.T) {
	for _, c := range []struct {
		a                  rows
		near, down, up, in float64
	}{
		{rows{{1, least}, {-least, 1}}, 1, 1, 1 + 0x1p-52, 1},
		{rows{{1, least}, {least, 1}}, 1, 1 - 0x1p-53, 1, 1 - 0x1p-53},
		{rows{{-1, least}, {least, 1}}, -1, -1 - 0x1p-52, -1, -1},
		{diagonal(least, 0.5), 0, 0, least, 0},
		{diagonal(least, 0.75), least, 0, least, 0},
		{diagonal(-least, least), 0, -least, 0, 0},
		{diagonal(most, 2), inf, most, inf, most},
		{diagonal(most, -2), -inf, -inf, -most, -most},
		{rows{{most, -0x1p485}, {0x1p484, 1}}, most, most, inf, most}, // just below half of a step beyond
		{rows{{most, -0x1p485}, {0x1p485, 1}}, inf, most, inf, most},
		{diagonal(most, most, most, most, most, -most), -inf, -inf, -most, -most},
		{diagonal(least, least, least, least, least, least), 0, 0, least, 0},
	} {
		for i, want := range []float64{c.near, c.down, c.up, c.in} {
			got, err := matrix.Det(c.a, modes[i])
			told(t, "Det", c.a, got+0, err, want, fine)
		}
	}
}

// some is a matrix; in the first round one that nothing undoes, if it has two rows.
func some(n int, entry func() float64, round int) rows {
	a := made(n, entry)
	if round == 0 {
		copy(a[n-1], a[0])
	}
	return a
}

func TestDetByTheChaptersWords(t *testing.T) {
	seen := map[bool]int{}
	for _, entry := range makers(1) {
		for n := range api.MaxSize {
			for round := range 4 {
				a := some(n+1, entry, round)
				v := det(a)
				seen[v.Sign() == 0]++
				for _, mode := range modes {
					got, err := matrix.Det(a, mode)
					told(t, "Det", []any{a, mode}, got+0, err, rounded(v, mode)+0, fine)
				}
			}
		}
	}
	if seen[true] < 50 || seen[false] < 150 {
		t.Errorf("determinants that are 0: %v", seen)
	}
}

func TestDetOfNoMode(t *testing.T) {
	for _, mode := range noModes {
		for _, a := range []rows{{{2, 1}, {1, 3}}, {{0}}, diagonal(1, 2, 3)} {
			got, err := matrix.Det(a, mode)
			told(t, "Det", []any{a, mode}, got, err, 0, fault(api.ErrRange, 0))
		}
		for _, c := range wrongs() {
			got, err := matrix.Det(c.a, mode)
			told(t, "Det", []any{c.a, mode}, got, err, 0, c.err)
		}
	}
}

// unknowns is Solve by the chapter's words, of what isn't wrong: by Cramer's rule.
func unknowns(a rows, b []float64) ([]api.Span, api.Fault) {
	low := det(a)
	if low.Sign() == 0 {
		return nil, fault(api.ErrZero, 0)
	}
	var l []api.Span
	for k := range a {
		m := copied(a)
		for i := range m {
			m[i][k] = b[i]
		}
		x := over(det(m), low)
		s := api.Span{Lo: down(x), Hi: up(x)}
		if math.IsInf(s.Lo, 0) || math.IsInf(s.Hi, 0) {
			return nil, fault(api.ErrRange, k)
		}
		l = append(l, s)
	}
	return l, fine
}

func from(lo, hi float64) api.Span { return api.Span{Lo: lo, Hi: hi} }

func one(x float64) api.Span { return from(x, x) }

// unsigned is l without signs of 0.
func unsigned(l []api.Span) []api.Span {
	var m []api.Span
	for _, s := range l {
		m = append(m, from(s.Lo+0, s.Hi+0))
	}
	return m
}

func TestSolve(t *testing.T) {
	third := math.Nextafter(1.0/3, 1)
	for _, c := range []struct {
		a    rows
		b    []float64
		want []api.Span
		err  api.Fault
	}{
		{rows{{2, 1}, {1, 3}}, []float64{3, 5}, []api.Span{from(0.7999999999999999, 0.8), from(1.4, 1.4000000000000001)}, fine},
		{rows{{3}}, []float64{1}, []api.Span{from(1.0/3, third)}, fine},
		{rows{{3}}, []float64{-1}, []api.Span{from(-third, -1.0/3)}, fine},
		{rows{{-4}}, []float64{1}, []api.Span{one(-0.25)}, fine},
		{rows{{5}}, []float64{0}, []api.Span{one(0)}, fine},
		{rows{{5}}, []float64{minus}, []api.Span{one(0)}, fine},
		{rows{{0, 2}, {1, 0}}, []float64{6, 5}, []api.Span{one(5), one(3)}, fine},
		{rows{{0, 1, 0}, {0, 0, 1}, {1, 0, 0}}, []float64{1, 2, 3}, []api.Span{one(3), one(1), one(2)}, fine},
		{diagonal(1, 2, 4, 8, 16, 32), []float64{1, 1, 1, 1, 1, 1}, []api.Span{one(1), one(0.5), one(0.25), one(0.125), one(0.0625), one(0.03125)}, fine},
		{rows{{1, 1}, {1, 1 + 0x1p-52}}, []float64{2, 2 + 0x1p-51}, []api.Span{one(0), one(2)}, fine},
		{rows{{most}}, []float64{least}, []api.Span{from(0, least)}, fine},
		{rows{{-most}}, []float64{least}, []api.Span{from(-least, 0)}, fine},
		{rows{{1}}, []float64{most}, []api.Span{one(most)}, fine},

		{rows{{1, 2}, {2, 4}}, []float64{1, 2}, nil, fault(api.ErrZero, 0)},
		{rows{{1, 2}, {2, 4}}, []float64{0, 0}, nil, fault(api.ErrZero, 0)},
		{rows{{0}}, []float64{0}, nil, fault(api.ErrZero, 0)},
		{rows{{minus}}, []float64{most}, nil, fault(api.ErrZero, 0)},
		{rows{{1, 2, 3}, {4, 5, 6}, {7, 8, 9}}, []float64{1, 2, 3}, nil, fault(api.ErrZero, 0)},
		{diagonal(1, 2, 3, 0, 5, 6), []float64{1, 2, 3, 4, 5, 6}, nil, fault(api.ErrZero, 0)},

		{rows{{0.5}}, []float64{most}, nil, fault(api.ErrRange, 0)},
		{rows{{1 - 0x1p-53}}, []float64{most}, nil, fault(api.ErrRange, 0)},
		{rows{{1 - 0x1p-53}}, []float64{-most}, nil, fault(api.ErrRange, 0)},
		{rows{{-least}}, []float64{1}, nil, fault(api.ErrRange, 0)},
		{diagonal(1, 0.5), []float64{most, most}, nil, fault(api.ErrRange, 1)},
		{diagonal(1, 0.5, 0.5), []float64{most, most, most}, nil, fault(api.ErrRange, 1)},
		{diagonal(1, 1, 1, 1, 1, least), []float64{1, 2, 3, 4, 5, -6}, nil, fault(api.ErrRange, 5)},
	} {
		got, err := matrix.Solve(c.a, c.b)
		told(t, "Solve", []any{c.a, c.b}, unsigned(got), err, c.want, c.err)
		if c.err != fine && got != nil {
			t.Errorf("Solve of %v and %v: %v beside a fault", c.a, c.b, got)
		}
	}
}

func TestSolveByTheChaptersWords(t *testing.T) {
	codes := map[api.Errno]int{}
	for _, entry := range makers(2) {
		for n := range api.MaxSize {
			for round := range 5 {
				a, b := some(n+1, entry, round), list(n+1, entry)
				if round == 4 {
					b = list(n+1, makers(4)[7])
				}
				got, err := matrix.Solve(a, b)
				want, code := unknowns(a, b)
				told(t, "Solve", []any{a, b}, unsigned(got), err, unsigned(want), code)
				codes[err.Code]++
			}
		}
	}
	for _, code := range []api.Errno{api.OK, api.ErrZero, api.ErrRange} {
		if codes[code] < 20 {
			t.Errorf("only %d matrices of which is told %d", codes[code], code)
		}
	}
}

func TestSolveOfWrongLists(t *testing.T) {
	a, none := rows{{2, 1}, {1, 3}}, rows{{1, 2}, {2, 4}}
	for _, c := range []struct {
		a    rows
		b    []float64
		want api.Fault
	}{
		{a, nil, fault(api.ErrShape, 0)}, {a, []float64{}, fault(api.ErrShape, 0)}, {a, []float64{1}, fault(api.ErrShape, 0)}, {a, []float64{1, 2, 3}, fault(api.ErrShape, 0)},
		{a, []float64{nan}, fault(api.ErrShape, 0)}, {none, []float64{1}, fault(api.ErrShape, 0)},
		{a, []float64{nan, 1}, fault(api.ErrNaN, 2)}, {a, []float64{1, inf}, fault(api.ErrNaN, 2)}, {a, []float64{-inf, nan}, fault(api.ErrNaN, 2)},
		{none, []float64{1, nan}, fault(api.ErrNaN, 2)}, {rows{{0.5}}, []float64{inf}, fault(api.ErrNaN, 1)},
		{diagonal(1, 2, 3, 4, 5, 6), []float64{1, 2, 3, 4, 5, nan}, fault(api.ErrNaN, 6)},
	} {
		got, err := matrix.Solve(c.a, c.b)
		told(t, "Solve", []any{c.a, c.b}, got, err, nil, c.want)
	}
	for _, c := range wrongs() {
		for _, b := range [][]float64{nil, {1}, {nan}, {1, 2}, {nan, 1}, {1, 2, 3}} {
			got, err := matrix.Solve(c.a, b)
			told(t, "Solve", []any{c.a, b}, got, err, nil, c.err)
		}
	}
}

// undone is Inverse by the chapter's words, of what isn't wrong.
func undone(a rows) (rows, api.Fault) {
	low := det(a)
	if low.Sign() == 0 {
		return nil, fault(api.ErrZero, 0)
	}
	m := copied(a)
	for i := range a {
		for k := range a {
			v := over(det(without(a, k, i)), low)
			if (i+k)%2 == 1 {
				v.Neg(v)
			}
			m[i][k] = rounded(v, api.Near) + 0
		}
	}
	return m, fine
}

// without is a without the i-th row and the k-th column.
func without(a rows, i, k int) rows {
	m := rows{}
	for p, row := range a {
		if p != i {
			m = append(m, append(append([]float64{}, row[:k]...), row[k+1:]...))
		}
	}
	return m
}

func TestInverse(t *testing.T) {
	for _, c := range []struct {
		a, want rows
		err     api.Fault
	}{
		{rows{{0, 2}, {1, 0}}, rows{{0, 1}, {0.5, 0}}, fine},
		{rows{{2, 1}, {1, 3}}, rows{{0.6, -0.2}, {-0.2, 0.4}}, fine},
		{rows{{1, 2}, {3, 4}}, rows{{-2, 1}, {1.5, -0.5}}, fine},
		{rows{{3}}, rows{{1.0 / 3}}, fine},
		{rows{{-0.5}}, rows{{-2}}, fine},
		{rows{{1, 2, 3}, {0, 1, 4}, {5, 6, 0}}, rows{{-24, 18, 5}, {20, -15, -4}, {-5, 4, 1}}, fine},
		{rows{{0, 1, 0}, {0, 0, 1}, {1, 0, 0}}, rows{{0, 0, 1}, {1, 0, 0}, {0, 1, 0}}, fine},
		{rows{{1, 5}, {0, 1}}, rows{{1, -5}, {0, 1}}, fine},
		{diagonal(1, 2, 3, 4, 5, 6), diagonal(1, 0.5, 1.0/3, 0.25, 0.2, 1.0/6), fine},
		{rows{{least}}, rows{{inf}}, fine},
		{rows{{-least}}, rows{{-inf}}, fine},
		{rows{{1, most}, {least, 1}}, undoneOf(rows{{1, most}, {least, 1}}), fine},
		{rows{{least, 0}, {0, 1}}, rows{{inf, 0}, {0, 1}}, fine},
		{rows{{most}}, rows{{0x1p-1024}}, fine},
		{rows{{0x1p-1024}}, rows{{inf}}, fine},
		{rows{{0x1p-1024 + least}}, rows{{0x1.ffffffffffff8p1023}}, fine},
		{diagonal(most, most, most, most, most, most), diagonal(0x1p-1024, 0x1p-1024, 0x1p-1024, 0x1p-1024, 0x1p-1024, 0x1p-1024), fine},

		{rows{{0}}, nil, fault(api.ErrZero, 0)},
		{rows{{minus}}, nil, fault(api.ErrZero, 0)},
		{rows{{1, 2}, {2, 4}}, nil, fault(api.ErrZero, 0)},
		{rows{{1, 2, 3}, {4, 5, 6}, {7, 8, 9}}, nil, fault(api.ErrZero, 0)},
		{rows{{0.1, 0.2}, {0.3, 0.6}}, nil, fault(api.ErrZero, 0)},                   // doubled, floats are just so
		{rows{{0.1, 0.3}, {0.7, 2.1}}, undoneOf(rows{{0.1, 0.3}, {0.7, 2.1}}), fine}, // but no tenths
		{diagonal(1, 2, 3, 4, 5, 0), nil, fault(api.ErrZero, 0)},
	} {
		got, err := matrix.Inverse(c.a)
		told(t, "Inverse", c.a, unsignedRows(got), err, c.want, c.err)
	}
	for _, c := range wrongs() {
		got, err := matrix.Inverse(c.a)
		told(t, "Inverse", c.a, got, err, nil, c.err)
	}
}

func undoneOf(a rows) rows {
	m, _ := undone(a)
	return m
}

// unsignedRows is a without signs of 0.
func unsignedRows(a rows) rows {
	m := copied(a)
	for i := range m {
		for k := range m[i] {
			m[i][k] += 0
		}
	}
	return m
}

func TestInverseByTheChaptersWords(t *testing.T) {
	seen, infinite := map[api.Errno]int{}, 0
	for _, entry := range makers(3) {
		for n := range api.MaxSize {
			for round := range 4 {
				a := some(n+1, entry, round)
				got, err := matrix.Inverse(a)
				want, code := undone(a)
				told(t, "Inverse", a, unsignedRows(got), err, want, code)
				seen[err.Code]++
				for _, row := range got {
					for _, x := range row {
						if math.IsInf(x, 0) {
							infinite++
						}
					}
				}
			}
		}
	}
	if seen[api.OK] < 150 || seen[api.ErrZero] < 50 || infinite < 100 {
		t.Errorf("told of matrices: %v; %d entries are infinite", seen, infinite)
	}
}

// sumOf is the row's entries times those of x, exactly.
func sumOf(row []float64, x []*big.Rat) *big.Rat {
	sum := new(big.Rat)
	for k, c := range row {
		sum = plus(sum, times(rat(c), x[k]))
	}
	return sum
}

// What is told by Solve is where each row of a, times the unknowns, is that of b: with
// unknowns that floats tell, it is just these.
func TestSolveFindsWhatWasPutIn(t *testing.T) {
	for seed := range uint64(40) {
		small := makers(seed)[1]
		n := 1 + int(seed)%api.MaxSize
		a, x := made(n, small), list(n, small)
		var b []float64
		var want []api.Span
		for i, row := range a {
			v, _ := sumOf(row, rats(x)).Float64()
			b, want = append(b, v), append(want, one(x[i]+0))
		}
		got, err := matrix.Solve(a, b)
		if err == fault(api.ErrZero, 0) && det(a).Sign() == 0 {
			continue
		}
		told(t, "Solve", []any{a, b}, unsigned(got), err, want, fine)
	}
}
