package expan_test

import (
	"math/big"
	"testing"

	"enclosure/api"
	"enclosure/expan"
)

type pair = expan.Pair

// way is one of the four ways to reckon with pairs, and what it must come to.
type way struct {
	name  string
	pairs func(p, q pair) (pair, api.Errno)
	rats  func(x, y *big.Rat) *big.Rat
}

func ways() []way {
	return []way{
		{"Add", pair.Add, func(x, y *big.Rat) *big.Rat { return new(big.Rat).Add(x, y) }},
		{"Sub", pair.Sub, func(x, y *big.Rat) *big.Rat { return new(big.Rat).Sub(x, y) }},
		{"Mul", pair.Mul, product},
		{"Quo", pair.Quo, func(x, y *big.Rat) *big.Rat { return new(big.Rat).Quo(x, y) }},
	}
}

// pairOf is the pair of v, by the chapter's words; false, if there is none.
func pairOf(v *big.Rat) (pair, bool) {
	l, ok := entries(v, 2)
	l = append(l, 0, 0)
	return pair{Hi: l[0], Lo: l[1]}, ok
}

// whole is what the pair tells.
func whole(p pair) *big.Rat { return added([]float64{p.Hi, p.Lo}) }

// wrong is what is said of one pair.
func wrong(p pair) api.Errno {
	if !finite(p.Hi) || !finite(p.Lo) {
		return api.ErrNaN
	}
	if q, ok := pairOf(whole(p)); !ok || q != p {
		return api.ErrForm
	}
	return api.OK
}

// reckons holds all four ways against the chapter's words.
func reckons(t *testing.T, p, q pair) {
	t.Helper()
	for _, w := range ways() {
		var want pair
		err := wrong(p)
		if err == api.OK {
			err = wrong(q)
		}
		if err == api.OK && w.name == "Quo" && q == (pair{}) {
			err = api.ErrZero
		}
		if err == api.OK {
			var ok bool
			if want, ok = pairOf(w.rats(whole(p), whole(q))); !ok {
				want, err = pair{}, api.ErrRange
			}
		}
		if got, code := w.pairs(p, q); got != want || code != err {
			t.Errorf("%s of %v and %v: %v %v, want %v %v", w.name, p, q, got, code, want, err)
		}
	}
}

func TestPairs(t *testing.T) {
	add, sub, mul, quo := pair.Add, pair.Sub, pair.Mul, pair.Quo
	third := pair{Hi: 1.0 / 3, Lo: 1.850371707708594e-17}
	for i, c := range []struct {
		way  func(p, q pair) (pair, api.Errno)
		p, q pair
		want pair
		err  api.Errno
	}{
		{add, pair{Hi: 1}, pair{Hi: 2}, pair{Hi: 3}, api.OK},
		{add, pair{Hi: 1e16}, pair{Hi: 1}, pair{Hi: 1e16, Lo: 1}, api.OK},
		{add, pair{Hi: 1e16, Lo: 1}, pair{Hi: 1e16, Lo: 1}, pair{Hi: 2e16, Lo: 2}, api.OK},
		{add, pair{}, pair{Hi: minus, Lo: minus}, pair{}, api.OK},
		{add, pair{Hi: 1, Lo: 0x1p-100}, pair{Hi: -1}, pair{Hi: 0x1p-100}, api.OK},
		{add, pair{Hi: 1, Lo: 0x1p-53}, pair{Hi: 0x1p-106}, pair{Hi: 1 + 0x1p-52, Lo: -0x1p-53 + 0x1p-106}, api.OK},
		{add, pair{Hi: 1, Lo: 0x1p-100}, pair{Hi: least}, pair{Hi: 1, Lo: 0x1p-100}, api.OK}, // a third entry is left out
		{add, pair{Hi: most}, pair{Hi: 0x1p969}, pair{Hi: most, Lo: 0x1p969}, api.OK},
		{add, pair{Hi: most}, pair{Hi: 0x1p970}, pair{}, api.ErrRange},
		{add, pair{Hi: most}, pair{Hi: 0x1p970, Lo: -least}, pair{Hi: most, Lo: 0x1p970}, api.OK},
		{add, pair{Hi: -most}, pair{Hi: -most}, pair{}, api.ErrRange},
		{sub, pair{Hi: 1}, pair{Hi: 2}, pair{Hi: -1}, api.OK},
		{sub, third, third, pair{}, api.OK},
		{sub, pair{Hi: most}, pair{Hi: -0x1p970}, pair{}, api.ErrRange},
		{sub, pair{Hi: 1, Lo: least}, pair{Hi: 1}, pair{Hi: least}, api.OK},
		{mul, third, pair{Hi: 3}, pair{Hi: 1, Lo: -0x1p-108}, api.OK},
		{mul, pair{Hi: 0.1}, pair{Hi: 10}, pair{Hi: 1, Lo: 0x1p-54}, api.OK},
		{mul, pair{Hi: most}, pair{Hi: 2}, pair{}, api.ErrRange},
		{mul, pair{Hi: most}, pair{}, pair{}, api.OK},
		{mul, pair{Hi: least}, pair{Hi: 0.5}, pair{}, api.ErrRange},            // 0, though it isn't
		{mul, pair{Hi: least}, pair{Hi: 0.75}, pair{}, api.ErrRange},           // and then 0, though something is left
		{mul, pair{Hi: 3 * least}, pair{Hi: 0.5}, pair{}, api.ErrRange},        // half of it is left
		{mul, pair{Hi: 0x1p-537}, pair{Hi: 0x1p-537}, pair{Hi: least}, api.OK}, // nothing is left
		{mul, pair{Hi: 0x1p-538}, pair{Hi: -0x1p-537}, pair{}, api.ErrRange},   // -0
		{mul, pair{Hi: 1, Lo: least}, pair{Hi: 1, Lo: -least}, pair{}, api.ErrRange},
		{quo, pair{Hi: 1}, pair{Hi: 3}, third, api.OK},
		{quo, pair{Hi: -1}, pair{Hi: 3}, pair{Hi: -third.Hi, Lo: -third.Lo}, api.OK},
		{quo, pair{Hi: 1}, pair{Hi: 1, Lo: least}, pair{Hi: 1, Lo: -least}, api.OK},
		{quo, third, third, pair{Hi: 1}, api.OK},
		{quo, pair{}, pair{Hi: least}, pair{}, api.OK},
		{quo, pair{Hi: most}, pair{Hi: 0.5}, pair{}, api.ErrRange},
		{quo, pair{Hi: most}, pair{Hi: least}, pair{}, api.ErrRange},
		{quo, pair{Hi: least}, pair{Hi: most}, pair{}, api.ErrRange},
		{quo, pair{Hi: 0x1p-1019}, pair{Hi: 3}, pair{Hi: 0x1.5555555555555p-1021, Lo: least}, api.OK}, // the second one is rounded to a whole one
		{quo, pair{Hi: 0x1p-1021}, pair{Hi: 3}, pair{}, api.ErrRange},                                 // and here to 0
		{quo, pair{Hi: 1}, pair{}, pair{}, api.ErrZero},
		{quo, pair{}, pair{Hi: minus, Lo: 0}, pair{}, api.ErrZero},
		{quo, pair{}, pair{Hi: 0, Lo: minus}, pair{}, api.ErrZero},
	} {
		if got, err := c.way(c.p, c.q); got != c.want || err != c.err {
			t.Errorf("%d: of %v and %v: %v %v, want %v %v", i, c.p, c.q, got, err, c.want, c.err)
		}
	}
}

// shape is a pair, or none, with what is said of it.
type shape struct {
	p   pair
	err api.Errno
}

func shapes() []shape {
	even, odd := 1.0, 1+0x1p-52
	return []shape{
		{pair{}, api.OK},
		{pair{Hi: minus, Lo: minus}, api.OK}, // as the one ahead
		{pair{Hi: least}, api.OK},
		{pair{Lo: least}, api.ErrForm},
		{pair{Lo: -1}, api.ErrForm},
		{pair{Hi: 1, Lo: minus}, api.OK},
		{pair{Hi: 1, Lo: 1}, api.ErrForm},
		{pair{Hi: 1, Lo: 2}, api.ErrForm},
		{pair{Hi: 1, Lo: -1}, api.ErrForm},
		{pair{Hi: 1, Lo: least}, api.OK},
		{pair{Hi: even, Lo: 0x1p-53}, api.OK},
		{pair{Hi: odd, Lo: 0x1p-53}, api.ErrForm},
		{pair{Hi: odd, Lo: 0x1p-54}, api.OK},
		{pair{Hi: even, Lo: -0x1p-54}, api.OK}, // half a step, of those below
		{pair{Hi: even, Lo: -0x1.8p-54}, api.ErrForm},
		{pair{Hi: even, Lo: 0x1p-53 * odd}, api.ErrForm},
		{pair{Hi: least, Lo: least}, api.ErrForm},
		{pair{Hi: 0x1p-1021, Lo: least}, api.OK},
		{pair{Hi: 0x1p-1022, Lo: least}, api.ErrForm},
		{pair{Hi: most, Lo: 0x1p969}, api.OK},
		{pair{Hi: most, Lo: 0x1p970}, api.ErrForm}, // is too great
		{pair{Hi: most, Lo: most}, api.ErrForm},
		{pair{Hi: -most, Lo: -0x1p970}, api.ErrForm},
		{pair{Hi: -most, Lo: 0x1p970}, api.ErrForm}, // -most is odd
		{pair{Hi: 0x1p1023, Lo: -0x1p969}, api.OK},
		{pair{Hi: inf}, api.ErrNaN},
		{pair{Hi: -inf, Lo: 1}, api.ErrNaN},
		{pair{Lo: inf}, api.ErrNaN},
		{pair{Hi: 1, Lo: -inf}, api.ErrNaN},
		{pair{Hi: inf, Lo: -inf}, api.ErrNaN},
		{pair{Hi: nan}, api.ErrNaN},
		{pair{Lo: nan}, api.ErrNaN},
		{pair{Hi: most, Lo: nan}, api.ErrNaN},
	}
}

func TestWhatIsNoPair(t *testing.T) {
	for _, s := range shapes() {
		if got, err := s.p.Mul(pair{}); got != (pair{}) || err != s.err {
			t.Errorf("%v by 0: %v %v, want %v", s.p, got, err, s.err)
		}
		if got, err := (pair{}).Mul(s.p); got != (pair{}) || err != s.err {
			t.Errorf("0 by %v: %v %v, want %v", s.p, got, err, s.err)
		}
		for _, other := range shapes() { // the first one's goes first, and all ahead of ErrZero
			reckons(t, s.p, other.p)
		}
	}
}

// somePairs are pairs of all sizes, and now and then what is none.
func somePairs(count int) []pair {
	next := stream(10)
	var l []pair
	for i := range count {
		mid := int(next() % 2047)
		high := some(next, mid, mid)
		low := some(next, max(mid-110, 0), max(mid-50, 0))
		p, ok := pairOf(added([]float64{high, low}))
		if !ok || i%7 == 0 {
			p = pair{Hi: high, Lo: low}
		}
		l = append(l, p)
	}
	return l
}

func TestPairsAreRounded(t *testing.T) {
	next := stream(11)
	l := somePairs(2500)
	for i, p := range l {
		q := l[(i+1)%len(l)]
		reckons(t, p, q)
		// One whose size is near, so that sums lose something, and one so that
		// products and quotients are about as great as floats come, or as small.
		mid := int(next() % 2047)
		near, ok := pairOf(added([]float64{some(next, mid, min(mid+100, 2046)), some(next, mid, mid)}))
		if ok {
			reckons(t, near, pair{Hi: near.Lo})
			reckons(t, near, pair{Hi: -near.Hi, Lo: -near.Lo})
			reckons(t, pair{Hi: 1}, near)
			reckons(t, pair{Hi: 0x1p-1000}, near)
		}
	}
}

func TestPairsAtTheEnds(t *testing.T) {
	next := stream(12)
	for range 1500 {
		exp := int(next() % 1023)
		p, q := pair{Hi: some(next, exp, exp)}, pair{Hi: some(next, 950-min(exp, 900), 1030-min(exp, 900))}
		reckons(t, p, q)                                                              // products about where floats end below
		reckons(t, pair{Hi: some(next, 1, 130)}, pair{Hi: some(next, 1000, 1060)})    // and quotients
		reckons(t, pair{Hi: some(next, 1980, 2046)}, pair{Hi: some(next, 960, 1050)}) // and both above
	}
}
