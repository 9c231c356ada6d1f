package matrix_test

import (
	"math"
	"math/big"
	"testing"

	"enclosure/api"
	"enclosure/matrix"
)

// claim is what Proves is asked.
type claim struct {
	a    rows
	b    []float64
	r    rows
	x, e []float64
}

func (c claim) ask() (bool, api.Fault) { return matrix.Proves(c.a, c.b, c.r, c.x, c.e) }

func TestProves(t *testing.T) {
	a, b := rows{{2, 1}, {1, 3}}, []float64{3, 5}
	r, x := rows{{0.6, -0.2}, {-0.2, 0.4}}, []float64{0.8, 1.4}
	half, turn, naught := rows{{0.5}}, rows{{0, 1}, {-1, 0}}, rows{{0, 0}, {0, 0}}
	eye, triangle := diagonal(1, 1), rows{{1, -0.5}, {0, 1}}
	for _, c := range []struct {
		claim
		want bool
	}{
		{claim{a, b, r, x, []float64{1e-12, 1e-12}}, true},
		{claim{a, b, r, []float64{0.8, 1.5}, []float64{1e-12, 1e-12}}, false},
		{claim{a, b, r, []float64{0.9, 1.4}, []float64{1e-12, 1e-12}}, false},
		{claim{a, b, r, x, []float64{1e-17, 1e-12}}, false},
		{claim{a, b, r, x, []float64{1e-12, 1e-17}}, false},
		{claim{a, b, r, []float64{0.8, 1.5}, []float64{1e-12, 0.11}}, true},
		{claim{a, b, naught, x, []float64{1e-12, 1e-12}}, false}, // what r leaves is all of e
		{claim{a, b, r, x, []float64{0, 1e-12}}, false},
		{claim{a, b, r, x, []float64{1e-12, 0}}, false},

		// Of 2 x = 4: what is told lies at the border, or just beyond it.
		{claim{rows{{2}}, []float64{4}, half, []float64{2}, []float64{least}}, true},
		{claim{rows{{2}}, []float64{4}, half, []float64{2}, []float64{0}}, false},
		{claim{rows{{2}}, []float64{4}, half, []float64{2}, []float64{minus}}, false},
		{claim{rows{{2}}, []float64{4}, half, []float64{2}, []float64{-1}}, false},
		{claim{rows{{2}}, []float64{4}, half, []float64{2.25}, []float64{0.25}}, false},
		{claim{rows{{2}}, []float64{4}, half, []float64{2.25}, []float64{0.25 + 0x1p-54}}, true},
		{claim{rows{{2}}, []float64{4}, half, []float64{1.75}, []float64{0.25}}, false},
		{claim{rows{{2}}, []float64{4}, half, []float64{1.75}, []float64{0.25 + 0x1p-54}}, true},
		{claim{rows{{2}}, []float64{4}, rows{{0.25}}, []float64{1.75}, []float64{0.25}}, false}, // a half of e is taken up by what r leaves
		{claim{rows{{2}}, []float64{4}, rows{{0.25}}, []float64{1.75}, []float64{0.25 + 0x1p-54}}, true},
		{claim{rows{{2}}, []float64{4}, rows{{0.75}}, []float64{1.75}, []float64{0.75}}, false},
		{claim{rows{{2}}, []float64{4}, rows{{0.75}}, []float64{1.75}, []float64{0.75 + 0x1p-53}}, true},
		{claim{rows{{2}}, []float64{4}, rows{{1}}, []float64{2}, []float64{1}}, false}, // r leaves 1
		{claim{rows{{2}}, []float64{4}, rows{{-0.5}}, []float64{2}, []float64{1}}, false},
		{claim{rows{{2}}, []float64{4}, rows{{0}}, []float64{2}, []float64{1}}, false},
		{claim{rows{{0}}, []float64{0}, rows{{1}}, []float64{0}, []float64{1}}, false},

		// Of x = 0, y = 0: e of the other one counts too.
		{claim{eye, []float64{0, 0}, triangle, []float64{0, 0}, []float64{1, 2}}, false},
		{claim{eye, []float64{0, 0}, triangle, []float64{0, 0}, []float64{1 + 0x1p-52, 2}}, true},
		{claim{eye, []float64{0, 0}, triangle, []float64{0, 0}, []float64{1, 2 - 0x1p-52}}, true},
		{claim{eye, []float64{0, 0}, triangle, []float64{0.25, 0.5}, []float64{1.25, 2}}, true}, // r turns the row of what is off
		{claim{eye, []float64{0, 0}, triangle, []float64{-0.25, 0.5}, []float64{1.5, 2}}, false},
		{claim{eye, []float64{0, 0}, triangle, []float64{-0.25, 0.5}, []float64{1.5 + 0x1p-52, 2}}, true},
		{claim{eye, []float64{0, 0}, triangle, []float64{0, 0}, []float64{5, -2}}, false},
		{claim{eye, []float64{0, 0}, triangle, []float64{0, 0}, []float64{-1, 2}}, false},

		{claim{turn, []float64{1, 2}, rows{{0, -1}, {1, 0}}, []float64{-2, 1}, []float64{least, least}}, true},
		{claim{turn, []float64{1, 2}, turn, []float64{-2, 1}, []float64{1, 1}}, false}, // the wrong way round
		{claim{rows{{1, 2}, {2, 4}}, []float64{1, 2}, eye, []float64{1, 0}, []float64{1, 1}}, false},
		{claim{rows{{1, 2}, {2, 4}}, []float64{1, 2}, naught, []float64{1, 0}, []float64{1, 1}}, false},
		{claim{rows{{1 + 0x1p-52}}, []float64{1}, rows{{1 - 0x1p-52}}, []float64{1 - 0x1p-52}, []float64{0x1p-104 - 0x1p-156}}, false}, // floats lose what it lacks
		{claim{rows{{1 + 0x1p-52}}, []float64{1}, rows{{1 - 0x1p-52}}, []float64{1 - 0x1p-52}, []float64{0x1p-104 - 0x1p-157}}, true},
		{claim{rows{{most}}, []float64{most}, rows{{0x1p-1024}}, []float64{1}, []float64{least}}, true},
		{claim{rows{{most}}, []float64{least}, rows{{most}}, []float64{most}, []float64{most}}, false},
		{claim{diagonal(1, 2, 4, 8, 16, 32), []float64{1, 2, 3, 4, 5, 6}, diagonal(1, 0.5, 0.25, 0.125, 0.0625, 0.03125), []float64{1, 1, 0.75, 0.5, 0.3125, 0.1875}, []float64{least, least, least, least, least, least}}, true},
		{claim{diagonal(1, 2, 4, 8, 16, 32), []float64{1, 2, 3, 4, 5, 6}, diagonal(1, 0.5, 0.25, 0.125, 0.0625, 0.03125), []float64{1, 1, 0.75, 0.5, 0.3125, 0.18}, []float64{1, 1, 1, 1, 1, least}}, false},
	} {
		got, err := c.ask()
		told(t, "Proves", c.claim, got, err, c.want, fine)
	}
}

// reach is what e_i must be above, but for its own share: by the chapter's words.
func (c claim) reach(i int) *big.Rat {
	sum := new(big.Rat)
	for k := range c.a {
		lacks := less(rat(c.b[k]), sumOf(c.a[k], rats(c.x)))
		sum = plus(sum, times(rat(c.r[i][k]), lacks))
	}
	sum = abs(sum)
	for k := range c.a {
		entry := new(big.Rat)
		for p := range c.a {
			entry = plus(entry, times(rat(c.r[i][p]), rat(c.a[p][k])))
		}
		if i == k {
			entry = less(entry, big.NewRat(1, 1))
		}
		sum = plus(sum, times(abs(entry), rat(c.e[k])))
	}
	return sum
}

// holds is Proves by the chapter's words, of what isn't wrong.
func (c claim) holds() bool {
	for i := range c.a {
		if c.e[i] <= 0 || rat(c.e[i]).Cmp(c.reach(i)) <= 0 {
			return false
		}
	}
	return true
}

func TestProvesByTheChaptersWords(t *testing.T) {
	next := stream(11)
	seen := map[bool]int{}
	for s, entry := range makers(11) {
		for n := range api.MaxSize {
			for round := range 6 {
				a, b := made(n+1, entry), list(n+1, makers(next())[(s+round/3*5)%12])
				c := claim{a: a, b: b, r: made(n+1, entry), x: list(n+1, entry), e: list(n+1, entry)}
				if got, err := matrix.Inverse(a); err == fine && finite(got) && round%3 > 0 {
					c.guessed(got, next)
				}
				for range 3 {
					got, err := c.ask()
					told(t, "Proves", c, got, err, c.holds(), fine)
					seen[got]++
					if got {
						c.isSo(t)
					}
					c.border(next)
				}
			}
		}
	}
	if seen[true] < 100 || seen[false] < 100 {
		t.Errorf("proved: %v", seen)
	}
}

func finite(a rows) bool {
	for _, row := range a {
		for _, x := range row {
			if math.IsInf(x, 0) {
				return false
			}
		}
	}
	return true
}

// guessed takes r, and what Solve tells, a bit off.
func (c *claim) guessed(r rows, next func() uint64) {
	c.r = r
	l, err := matrix.Solve(c.a, c.b)
	if err != fine {
		return
	}
	for i, s := range l {
		off := math.Exp2(-float64(next() % 60))
		c.x[i] = max(min(s.Lo*(1+off), most), -most)
		c.e[i] = min(math.Abs(s.Lo)*off*1.01+least, most)
	}
}

// border sets an e to the border that is asked of it, or to the next float.
func (c *claim) border(next func() uint64) {
	i := int(next() % uint64(len(c.e)))
	x := up(c.reach(i))
	if next()%2 == 0 {
		x = math.Nextafter(x, inf)
	}
	c.e[i] = min(x, most)
}

// isSo fails unless what is proved holds.
func (c claim) isSo(t *testing.T) {
	t.Helper()
	low := det(c.a)
	if low.Sign() == 0 {
		t.Errorf("Proves of %v: but the determinant is 0", c)
		return
	}
	for k := range c.a {
		m := copied(c.a)
		for i := range m {
			m[i][k] = c.b[i]
		}
		if far := abs(less(over(det(m), low), rat(c.x[k]))); far.Cmp(rat(c.e[k])) >= 0 {
			t.Errorf("Proves of %v: but the unknown %d is %v off", c, k, far)
		}
	}
}

func TestProvesOfWrongLists(t *testing.T) {
	a, two, none := diagonal(1, 2), []float64{1, 2}, []float64{nan, 1}
	three, one, six := diagonal(1, 2, 3), []float64{1}, diagonal(1, 2, 3, 4, 5, 6)
	for _, c := range []struct {
		claim
		want api.Fault
	}{
		{claim{a, one, a, two, two}, fault(api.ErrShape, 0)}, {claim{a, nil, a, two, two}, fault(api.ErrShape, 0)}, {claim{a, []float64{1, 2, 3}, a, two, two}, fault(api.ErrShape, 0)},
		{claim{a, two, a, one, two}, fault(api.ErrShape, 0)}, {claim{a, two, a, two, one}, fault(api.ErrShape, 0)}, {claim{a, two, a, nil, nil}, fault(api.ErrShape, 0)},
		{claim{a, none, a, two, two}, fault(api.ErrNaN, 0)}, {claim{a, two, a, none, two}, fault(api.ErrNaN, 0)}, {claim{a, two, a, two, none}, fault(api.ErrNaN, 0)},
		{claim{a, []float64{1, inf}, a, two, two}, fault(api.ErrNaN, 0)}, {claim{a, two, a, []float64{1, -inf}, two}, fault(api.ErrNaN, 0)}, {claim{a, two, a, two, []float64{1, inf}}, fault(api.ErrNaN, 0)},
		{claim{a, two, three, two, two}, fault(api.ErrShape, 0)}, {claim{a, two, rows{{1}}, two, two}, fault(api.ErrShape, 0)}, {claim{three, []float64{1, 2, 3}, a, []float64{1, 2, 3}, []float64{1, 2, 3}}, fault(api.ErrShape, 0)},
		// One after the other: b, x, e; and how many rows r has at the end.
		{claim{a, none, a, one, one}, fault(api.ErrNaN, 0)}, {claim{a, one, a, none, none}, fault(api.ErrShape, 0)}, {claim{a, two, a, none, one}, fault(api.ErrNaN, 0)}, {claim{a, two, a, one, none}, fault(api.ErrShape, 0)},
		{claim{a, []float64{nan}, a, two, two}, fault(api.ErrShape, 0)},
		{claim{a, none, three, two, two}, fault(api.ErrNaN, 0)}, {claim{a, two, three, none, two}, fault(api.ErrNaN, 0)}, {claim{a, two, three, two, none}, fault(api.ErrNaN, 0)},
		{claim{a, []float64{1, 2, 3}, three, []float64{1, 2, 3}, []float64{1, 2, 3}}, fault(api.ErrShape, 0)}, {claim{a, []float64{1, 2, nan}, three, two, two}, fault(api.ErrShape, 0)},
		{claim{six, make([]float64, 6), six, make([]float64, 6), append(make([]float64, 5), nan)}, fault(api.ErrNaN, 0)},
	} {
		got, err := c.ask()
		told(t, "Proves", c.claim, got, err, false, c.want)
	}
	for _, c := range wrongs() {
		for _, l := range [][]float64{one, two, none, nil} {
			got, err := matrix.Proves(c.a, l, a, l, l)
			told(t, "Proves", []any{c.a, l}, got, err, false, c.err)
			got, err = matrix.Proves(a, l, c.a, l, l)
			told(t, "Proves", []any{a, l, c.a}, got, err, false, c.err)
			got, err = matrix.Proves(c.a, l, rows{{nan}}, l, l)
			told(t, "Proves", []any{c.a, l, "no r"}, got, err, false, c.err)
			got, err = matrix.Proves(rows{{1, 2}, {3}}, l, c.a, l, l)
			told(t, "Proves", []any{"no a", l, c.a}, got, err, false, fault(api.ErrShape, 1))
		}
	}
}
