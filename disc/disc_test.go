package disc_test

import (
	"math"
	"math/big"
	"testing"

	"enclosure/api"
	"enclosure/disc"
)

func TestCheck(t *testing.T) {
	for _, c := range []struct {
		d    api.Disc
		want api.Errno
	}{
		{at(0, 0), api.OK}, {at(1+2i, 3), api.OK}, {at(complex(minus, -most), minus), api.OK}, {at(complex(most, least), most), api.OK}, {at(1, least), api.OK},
		{at(1, -least), api.ErrRange}, {at(1, -1), api.ErrRange}, {at(1, -most), api.ErrRange},
		{at(1, inf), api.ErrNaN}, {at(1, -inf), api.ErrNaN}, {at(1, nan), api.ErrNaN},
	} {
		if got := disc.Check(c.d); got != c.want {
			t.Errorf("Check of %v: %d, want %d", c.d, got, c.want)
		}
	}
	for _, z := range notFinite {
		for _, r := range []float64{0, 1, -1, inf, nan} {
			if got := disc.Check(at(z, r)); got != api.ErrNaN {
				t.Errorf("Check of %v, %v: %d", z, r, got)
			}
		}
	}
}

func TestHolds(t *testing.T) {
	for _, c := range []struct {
		d    api.Disc
		z    complex128
		want bool
	}{
		{at(1, 0.5), 1.5, true},
		{at(1, 0.5), 1.5000000000000002, false},
		{at(1, 0.5), 1 - 0.5i, true},
		{at(1i, 5), 3 + 5i, true},
		{at(1i, 5), complex(3, 5.000000000000001), false},
		{at(1i, 5), complex(-3.0000000000000004, 5), false},
		{at(2-3i, 0), 2 - 3i, true},
		{at(2-3i, 0), complex(2, -3.0000000000000004), false},
		{at(2-3i, minus), 2 - 3i, true},
		{at(0, 0), complex(minus, minus), true},
		{at(0, 0), complex(0, least), false},
		{at(0, least), complex(0, least), true},
		{at(0, least), complex(least, least), false},
		{at(0, 2*least), complex(least, least), true},
		{at(0, most), complex(-most, 0), true},
		{at(0, most), complex(-most, least), false}, // floats see no difference
		{at(complex(most, 0), most), complex(-most, 0), false},
		{at(complex(most, most), most), complex(most, 0), true},
		{at(1, 0x1p-60), 1, true},
		// Of no disc, none.
		{at(1, -1), 1, false},
		{at(1, inf), 1, false},
		{at(1, nan), 1, false},
		{at(complex(inf, 0), 1), 1, false},
		{at(complex(0, nan), 1), 0, false},
	} {
		if got := disc.Holds(c.d, c.z); got != c.want {
			t.Errorf("Holds of %v and %v: %v", c.d, c.z, got)
		}
	}
	for _, z := range notFinite {
		if disc.Holds(at(0, most), z) || disc.Holds(at(z, 1), z) {
			t.Errorf("Holds of %v", z)
		}
	}
}

func TestHoldsExactly(t *testing.T) {
	for i, d := range discs(1, 4) {
		// Points about the rim, where there are any.
		for _, turn := range []complex128{1, -1i, 0.6 + 0.8i, complex(math.Cos(float64(i)), math.Sin(float64(i)))} {
			z := d.Mid + turn*complex(d.R, 0)
			for _, w := range []complex128{z, complex(math.Nextafter(real(z), 0), imag(z)), complex(real(z), math.Nextafter(imag(z), inf))} {
				want := finite(w) && just(w).less(just(d.Mid)).norm().Cmp(times(rat(d.R), rat(d.R))) <= 0
				if got := disc.Holds(d, w); got != want {
					t.Errorf("Holds of %v and %v: %v", d, w, got)
				}
			}
		}
	}
}

// made is the disc made of m and r, by the chapter's words.
func made(m exactly, r *big.Rat) (api.Disc, api.Errno) {
	mid := m.rounded()
	if !finite(mid) {
		return api.Disc{}, api.ErrRange
	}
	moved := rootUp(m.less(just(mid)).norm())
	if reach := up(plus(r, rat(moved))); whole(reach) {
		return at(mid, reach), api.OK
	}
	return api.Disc{}, api.ErrRange
}

// Of good discs, by the chapter's words.

func sum(d, e api.Disc) (api.Disc, api.Errno) {
	return made(just(d.Mid).plus(just(e.Mid)), plus(rat(d.R), rat(e.R)))
}

func difference(d, e api.Disc) (api.Disc, api.Errno) {
	return made(just(d.Mid).less(just(e.Mid)), plus(rat(d.R), rat(e.R)))
}

func productOf(d, e api.Disc) (api.Disc, api.Errno) {
	a, b := rootUp(just(d.Mid).norm()), rootUp(just(e.Mid).norm())
	if !whole(a) || !whole(b) {
		return api.Disc{}, api.ErrRange
	}
	r, s := rat(d.R), rat(e.R)
	return made(just(d.Mid).times(just(e.Mid)), plus(plus(times(rat(a), s), times(rat(b), r)), times(r, s)))
}

func inverse(d api.Disc) (api.Disc, api.Errno) {
	m := just(d.Mid)
	n := less(m.norm(), times(rat(d.R), rat(d.R)))
	if n.Sign() <= 0 {
		return api.Disc{}, api.ErrZero
	}
	return made(exactly{over(m.x, n), over(m.y.Neg(m.y), n)}, over(rat(d.R), n))
}

func TestReckonsOrdinaryDiscs(t *testing.T) {
	d, e := at(1, 0.5), at(2i, 0.25)
	of := []api.Disc{d, e}
	got, err := disc.Add(d, e)
	told(t, "Add", of, got, err, at(1+2i, 0.75), api.OK)
	got, err = disc.Sub(d, e)
	told(t, "Sub", of, got, err, at(1-2i, 0.75), api.OK)
	got, err = disc.Mul(d, e)
	told(t, "Mul", of, got, err, at(2i, 1.375), api.OK)
	got, err = disc.Mul(at(3+4i, 1), at(-12+5i, 2))
	told(t, "Mul", "3+4i and -12+5i", got, err, at(-56-33i, 25), api.OK)
	got, err = disc.Inv(at(2i, 0))
	told(t, "Inv", "2i", got, err, at(-0.5i, 0), api.OK)
	got, err = disc.Inv(at(3, 1))
	told(t, "Inv", "3 and 1", got, err, at(0.375, 0.125), api.OK)
	got, err = disc.Inv(at(-3-4i, 3))
	told(t, "Inv", "-3-4i and 3", got, err, at(-0.1875+0.25i, 0.1875), api.OK)
}

// What the middle is rounded off by is in the radius, rounded Up once more.
func TestRoundingIsInTheRadius(t *testing.T) {
	got, err := disc.Add(at(1, 0), at(0x1p-60, 0))
	told(t, "Add", "1 and 2^-60", got, err, at(1, 0x1p-60), api.OK)
	got, err = disc.Add(at(1, 1), at(0x1p-60, 0))
	told(t, "Add", "1 and 2^-60", got, err, at(1, 1+0x1p-52), api.OK)
	got, err = disc.Sub(at(1+1i, 0), at(0x1p-60+0x1p-60i, 0))
	told(t, "Sub", "1+i and 2^-60", got, err, at(1+1i, 0x1.6a09e667f3bcdp-60), api.OK)
	got, err = disc.Mul(at(complex(least, 0), 0), at(0.25, 0))
	told(t, "Mul", "the least float and 1/4", got, err, at(0, least), api.OK)
	got, err = disc.Inv(at(3, 0))
	third := rat(1. / 3)
	told(t, "Inv", "3", got, err, at(1./3, up(less(big.NewRat(1, 3), third))), api.OK)
}

func TestReckonsByTheChaptersWords(t *testing.T) {
	a, b := discs(2, 5), discs(3, 5)
	next := stream(4)
	for i, d := range a {
		for _, e := range []api.Disc{b[i], b[next()%uint64(len(b))]} {
			of := []api.Disc{d, e}
			got, err := disc.Add(d, e)
			want, code := sum(d, e)
			told(t, "Add", of, got, err, want, code)
			got, err = disc.Sub(d, e)
			want, code = difference(d, e)
			told(t, "Sub", of, got, err, want, code)
			got, err = disc.Mul(d, e)
			want, code = productOf(d, e)
			told(t, "Mul", of, got, err, want, code)
		}
		got, err := disc.Inv(d)
		want, code := inverse(d)
		told(t, "Inv", d, got, err, want, code)
	}
}

func TestInvNearZero(t *testing.T) {
	for _, c := range []struct {
		d    api.Disc
		code api.Errno
	}{
		{at(0, 0), api.ErrZero}, {at(1, 1), api.ErrZero}, {at(1, 2), api.ErrZero}, {at(3+4i, 5), api.ErrZero}, {at(-3-4i, 5), api.ErrZero},
		{at(complex(3, 4), 4.999999999999999), api.OK}, {at(complex(1, 0), 0.9999999999999999), api.OK}, {at(complex(most, 0), most), api.ErrZero},
		{at(complex(most, least), most), api.ErrRange}, // N is above 0, but as low as a square of the least float
		{at(complex(least, 0), least), api.ErrZero}, {at(complex(least, 0), 0), api.ErrRange}, {at(complex(0x1p-1022, 0), 0), api.OK},
		{at(complex(0x1p-1024, 0), 0), api.ErrRange}, {at(complex(most, most), 0), api.OK},
	} {
		got, err := disc.Inv(c.d)
		want, code := inverse(c.d)
		told(t, "Inv", c.d, got, err, want, code)
		if code != c.code {
			t.Errorf("Inv of %v: %d, want %d", c.d, code, c.code)
		}
	}
}

func TestTooGreatDiscs(t *testing.T) {
	big, one := at(complex(most, 0), 0), at(1, 0)
	for _, c := range []struct {
		what string
		do   func(d, e api.Disc) (api.Disc, api.Errno)
		d, e api.Disc
		want api.Disc
		code api.Errno
	}{
		{"Add", disc.Add, big, big, api.Disc{}, api.ErrRange},
		{"Add", disc.Add, at(complex(1, -most), 0), at(complex(0, -most), 1), api.Disc{}, api.ErrRange},
		{"Sub", disc.Sub, big, at(complex(-most, 0), 0), api.Disc{}, api.ErrRange},
		{"Sub", disc.Sub, big, big, at(0, 0), api.OK},
		{"Add", disc.Add, at(0, most), at(0, most), api.Disc{}, api.ErrRange},
		{"Add", disc.Add, at(0, most), at(0, least), api.Disc{}, api.ErrRange},
		{"Add", disc.Add, at(0, most), at(1, 0), at(1, most), api.OK},
		{"Add", disc.Add, at(1, most), at(0x1p-60, 0), api.Disc{}, api.ErrRange}, // but for what the middle is rounded off by
		{"Add", disc.Add, big, one, at(complex(most, 0), 1), api.OK},
		{"Mul", disc.Mul, big, at(2, 0), api.Disc{}, api.ErrRange},
		{"Mul", disc.Mul, big, one, big, api.OK},
		{"Mul", disc.Mul, at(0, most), at(0, 2), api.Disc{}, api.ErrRange},
		{"Mul", disc.Mul, at(0, most), at(1, 1), api.Disc{}, api.ErrRange},
		{"Mul", disc.Mul, at(complex(most, 0), 1), at(0, 1), api.Disc{}, api.ErrRange},
		// The root of a middle's Norm is infinite, whatever it is multiplied with.
		{"Mul", disc.Mul, at(complex(most, most), 0), at(0, 0), api.Disc{}, api.ErrRange},
		{"Mul", disc.Mul, at(0, 0), at(complex(most, least), 0), api.Disc{}, api.ErrRange},
		{"Mul", disc.Mul, at(0, 0), big, at(0, 0), api.OK},
	} {
		got, err := c.do(c.d, c.e)
		told(t, c.what, []api.Disc{c.d, c.e}, got, err, c.want, c.code)
	}
}

func TestNoDiscs(t *testing.T) {
	bad := map[api.Errno][]api.Disc{
		api.ErrNaN:   {at(complex(nan, 0), 1), at(complex(0, inf), -1), at(0, inf), at(0, nan), at(1, -inf)},
		api.ErrRange: {at(0, -1), at(1i, -least), at(1, -most)},
	}
	all := map[string]func(d, e api.Disc) (api.Disc, api.Errno){"Add": disc.Add, "Sub": disc.Sub, "Mul": disc.Mul}
	for code, l := range bad {
		for _, d := range l {
			got, err := disc.Inv(d)
			told(t, "Inv", d, got, err, api.Disc{}, code)
			for what, do := range all {
				got, err = do(d, at(1, 1))
				told(t, what, d, got, err, api.Disc{}, code)
				got, err = do(at(complex(most, most), 1), d)
				told(t, what, d, got, err, api.Disc{}, code)
				for _, other := range bad {
					got, err = do(d, other[0]) // the first one goes ahead
					told(t, what, d, got, err, api.Disc{}, code)
				}
			}
		}
	}
}

// within: does the number lie in d?
func within(d api.Disc, v exactly) bool {
	return v.less(just(d.Mid)).norm().Cmp(times(rat(d.R), rat(d.R))) <= 0
}

// What is made of numbers of discs lies in what is made of the discs.
func TestWhatIsMadeLiesWithin(t *testing.T) {
	next := stream(5)
	some := func() float64 { return float64(int64(next())>>11) * 0x1p-52 }
	inside := func(d api.Disc) complex128 {
		for {
			if z := d.Mid + complex(some()*d.R, some()*d.R); disc.Holds(d, z) {
				return z
			}
		}
	}
	for range 3000 {
		d := at(complex(some(), some()), math.Abs(some())*math.Exp2(float64(next()%60))*0x1p-58)
		e := at(complex(some(), some()), math.Abs(some())*math.Exp2(float64(next()%60))*0x1p-58)
		z, w := inside(d), inside(e)
		if got, _ := disc.Add(d, e); !within(got, just(z).plus(just(w))) {
			t.Errorf("Add of %v and %v: %v has not the sum of %v and %v", d, e, got, z, w)
		}
		if got, _ := disc.Sub(d, e); !within(got, just(z).less(just(w))) {
			t.Errorf("Sub of %v and %v: %v has not the difference of %v and %v", d, e, got, z, w)
		}
		if got, _ := disc.Mul(d, e); !within(got, just(z).times(just(w))) {
			t.Errorf("Mul of %v and %v: %v has not the product of %v and %v", d, e, got, z, w)
		}
		got, err := disc.Inv(d)
		n := just(z).norm()
		if err == api.OK && !within(got, exactly{over(rat(real(z)), n), over(rat(-imag(z)), n)}) {
			t.Errorf("Inv of %v: %v has not what is 1 over %v", d, got, z)
		}
	}
}
