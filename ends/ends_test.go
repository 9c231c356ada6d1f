package ends_test

import (
	"math"
	"math/big"
	"testing"

	"enclosure/api"
	"enclosure/ends"
	"enclosure/exact"
)

// fraction is x as the library has it.
func fraction(x exact.Num) *big.Rat {
	r, _ := new(big.Rat).SetString(x.Text())
	return r
}

// is fails unless a is just from lo to hi.
func is(t *testing.T, what string, a ends.Span, lo, hi *big.Rat) {
	t.Helper()
	if fraction(a.Lo).Cmp(lo) != 0 || fraction(a.Hi).Cmp(hi) != 0 {
		t.Errorf("%s: %s to %s, want %s to %s", what, a.Lo.Text(), a.Hi.Text(), lo, hi)
	}
}

func rat(x float64) *big.Rat { return new(big.Rat).SetFloat64(x) }

// least and greatest of l.
func extremes(l ...*big.Rat) (least, greatest *big.Rat) {
	least, greatest = l[0], l[0]
	for _, v := range l {
		if v.Cmp(least) < 0 {
			least = v
		}
		if v.Cmp(greatest) > 0 {
			greatest = v
		}
	}
	return least, greatest
}

// spans are all that have these ends.
func spans() []api.Span {
	l := []float64{-math.MaxFloat64, -3, -0.1, -math.SmallestNonzeroFloat64, 0, 0x1p-600, 0.7, 1 + 0x1p-52, 1e300}
	var all []api.Span
	for i, lo := range l {
		for _, hi := range l[i:] {
			all = append(all, api.Span{Lo: lo, Hi: hi})
		}
	}
	return all
}

func TestReckonsExactly(t *testing.T) {
	for _, s := range spans() {
		for _, u := range spans() {
			a, b := ends.Of(s), ends.Of(u)
			w, x, y, z := rat(s.Lo), rat(s.Hi), rat(u.Lo), rat(u.Hi)
			is(t, "Of", a, w, x)
			each := func(by func(v, p, q *big.Rat) *big.Rat) (lo, hi *big.Rat) {
				r := func(p, q *big.Rat) *big.Rat { return by(new(big.Rat), p, q) }
				return extremes(r(w, y), r(w, z), r(x, y), r(x, z))
			}
			lo, hi := each((*big.Rat).Add)
			is(t, "Add", a.Add(b), lo, hi)
			lo, hi = each((*big.Rat).Sub)
			is(t, "Sub", a.Sub(b), lo, hi)
			lo, hi = each((*big.Rat).Mul)
			is(t, "Mul", a.Mul(b), lo, hi)
			got, err := a.Quo(b)
			if u.Lo <= 0 && u.Hi >= 0 {
				is(t, "Quo by 0", got, new(big.Rat), new(big.Rat))
				if err != api.ErrZero {
					t.Errorf("Quo of %v and %v: %d", s, u, err)
				}
				continue
			}
			lo, hi = each((*big.Rat).Quo)
			is(t, "Quo", got, lo, hi)
			if err != api.OK {
				t.Errorf("Quo of %v and %v: %d", s, u, err)
			}
		}
	}
}

func TestPowIsExact(t *testing.T) {
	for _, s := range spans() {
		lo, hi := big.NewRat(1, 1), big.NewRat(1, 1)
		for n := range 14 {
			least, greatest := extremes(lo, hi)
			if n > 0 && n%2 == 0 && s.Lo < 0 && s.Hi > 0 {
				least = new(big.Rat)
			}
			is(t, "Pow", ends.Of(s).Pow(n), least, greatest)
			lo, hi = new(big.Rat).Mul(lo, rat(s.Lo)), new(big.Rat).Mul(hi, rat(s.Hi))
		}
	}
}

// TestInAndMeet: what lies where, by the floats themselves.
func TestInAndMeet(t *testing.T) {
	for _, s := range spans() {
		for _, u := range spans() {
			a, b := ends.Of(s), ends.Of(u)
			if got, want := a.In(b), u.Lo <= s.Lo && s.Hi <= u.Hi; got != want {
				t.Errorf("%v in %v: %v", s, u, got)
			}
			if lo, hi := max(s.Lo, u.Lo), min(s.Hi, u.Hi); lo <= hi {
				is(t, "Meet", a.Meet(b), rat(lo), rat(hi))
			}
		}
	}
}

func TestOut(t *testing.T) {
	const most, least = math.MaxFloat64, math.SmallestNonzeroFloat64
	num := func(x float64) exact.Num { return ends.Of(api.Span{Lo: x, Hi: x}).Lo }
	third, _ := exact.Over(1, 3)
	bit, _ := exact.Two(-2000)
	beyond := num(most).Add(bit)
	for _, c := range []struct {
		a    ends.Span
		want api.Span
		err  api.Errno
	}{
		{ends.Span{}, api.Span{}, api.OK},
		{ends.Of(api.Span{Lo: -0.1, Hi: 7}), api.Span{Lo: -0.1, Hi: 7}, api.OK},
		{ends.Span{Lo: third, Hi: third}, api.Span{Lo: 1.0 / 3, Hi: math.Nextafter(1.0/3, 1)}, api.OK},
		{ends.Span{Lo: third.Neg(), Hi: third}, api.Span{Lo: -math.Nextafter(1.0/3, 1), Hi: math.Nextafter(1.0/3, 1)}, api.OK},
		{ends.Span{Lo: bit, Hi: bit}, api.Span{Lo: 0, Hi: least}, api.OK},
		{ends.Span{Lo: bit.Neg(), Hi: bit.Neg()}, api.Span{Lo: -least, Hi: 0}, api.OK},
		{ends.Span{Lo: num(-most), Hi: num(most)}, api.Span{Lo: -most, Hi: most}, api.OK},
		{ends.Span{Lo: num(-most), Hi: beyond}, api.Span{}, api.ErrRange},
		{ends.Span{Lo: beyond.Neg(), Hi: num(most)}, api.Span{}, api.ErrRange},
		{ends.Span{Lo: beyond, Hi: beyond}, api.Span{}, api.ErrRange},
		{ends.Span{Lo: beyond.Neg(), Hi: beyond.Neg()}, api.Span{}, api.ErrRange},
	} {
		if got, err := c.a.Out(); got != c.want || err != c.err {
			t.Errorf("Out of %s to %s: %v %d, want %v %d", c.a.Lo.Text(), c.a.Hi.Text(), got, err, c.want, c.err)
		}
	}
}
