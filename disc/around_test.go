package disc_test

import (
	"math"
	"math/big"
	"slices"
	"testing"

	"enclosure/api"
	"enclosure/disc"
)

func TestDiscsOfOrdinaryPolynomials(t *testing.T) {
	got, err := disc.Discs([]complex128{1, 0, 1}, []complex128{0.1 + 1i, 0.1 - 1i})
	r := rootUp(value([]complex128{1, 0, 1}, 0.1+1i).norm()) // 2 |0.01 + 0.2i| / |2i|
	toldAll(t, "Discs", "1 0 1", got, err, []api.Disc{at(0.1+1i, r), at(0.1-1i, r)}, fine)
	if r < 0.2 || r > 0.201 {
		t.Errorf("Discs of 1 0 1: %v", got)
	}
	got, err = disc.Discs([]complex128{-3, 1}, []complex128{1i})
	toldAll(t, "Discs", "-3 1", got, err, []api.Disc{at(1i, rootUp(big.NewRat(10, 1)))}, fine)
	got, err = disc.Discs([]complex128{-8, 2}, []complex128{1})
	toldAll(t, "Discs", "-8 2", got, err, []api.Disc{at(1, 3)}, fine)
	got, err = disc.Discs([]complex128{-6, 11, -6, 1}, []complex128{3, 1, 2})
	toldAll(t, "Discs", "-6 11 -6 1", got, err, []api.Disc{at(3, 0), at(1, 0), at(2, 0)}, fine)
	// 3 |64 - 1| / |(4 - 1) (4 - 2)|, 0, and 3 |8 - 1| / |(2 - 4) (2 - 1)|
	got, err = disc.Discs([]complex128{-1, 0, 0, 1}, []complex128{4, 1, 2})
	toldAll(t, "Discs", "-1 0 0 1", got, err, []api.Disc{at(4, 31.5), at(1, 0), at(2, 10.5)}, fine)
}

// smith is R of the disc i, by the chapter's words.
func smith(p, near []complex128, i int) float64 {
	n := int64(len(p) - 1)
	low := just(p[n])
	for j, w := range near {
		if j != i {
			low = low.times(just(near[i]).less(just(w)))
		}
	}
	return rootUp(over(times(value(p, near[i]).norm(), big.NewRat(n*n, 1)), low.norm()))
}

// around is Discs by the chapter's words, of a polynomial and as many finite numbers.
func around(p, near []complex128) ([]api.Disc, api.Fault) {
	var l []api.Disc
	for i, z := range near {
		for j, w := range near {
			if i != j && z == w {
				return nil, fault(api.ErrForm, i)
			}
		}
		r := smith(p, near, i)
		if math.IsInf(r, 1) {
			return nil, fault(api.ErrRange, i)
		}
		l = append(l, at(z, r))
	}
	return l, fine
}

func TestDiscsByTheChaptersWords(t *testing.T) {
	next := stream(8)
	codes := map[api.Errno]int{}
	for _, ofP := range makers(9) {
		for _, ofNear := range makers(10) {
			for range 4 {
				n := 1 + int(next()%api.MaxDegree)
				if next()%4 > 0 {
					n = 1 + n%4 // longer ones seldom have no two the same
				}
				p, near := numbers(n+1, ofP), numbers(n, ofNear)
				p[n] += 0.5 // not 0
				got, err := disc.Discs(p, near)
				want, code := around(p, near)
				toldAll(t, "Discs", [][]complex128{p, near}, got, err, want, code)
				codes[code.Code]++
			}
		}
	}
	for _, code := range []api.Errno{api.OK, api.ErrForm, api.ErrRange} {
		if codes[code] < 20 {
			t.Errorf("only %d lists of which is told %d", codes[code], code)
		}
	}
}

func TestDiscsOfWrongLists(t *testing.T) {
	none := complex(nan, 0)
	line, square, cube := []complex128{1, 1}, []complex128{1, 0, 1}, []complex128{1, 0, 0, 1}
	far, farther := complex(most, 0), complex(0, -most)
	for _, c := range []struct {
		p, near []complex128
		want    api.Fault
	}{
		{line, nil, fault(api.ErrShape, 0)}, {line, []complex128{}, fault(api.ErrShape, 0)}, {line, []complex128{1, 2}, fault(api.ErrShape, 0)}, {line, []complex128{none, 2}, fault(api.ErrShape, 0)},
		{square, []complex128{1}, fault(api.ErrShape, 0)}, {square, []complex128{1, 1, 1}, fault(api.ErrShape, 0)}, {square, make([]complex128, 100), fault(api.ErrShape, 0)},
		{square, []complex128{none, none}, fault(api.ErrNaN, 0)}, {square, []complex128{1, none}, fault(api.ErrNaN, 1)}, {cube, []complex128{1, 1, notFinite[3]}, fault(api.ErrNaN, 2)}, {cube, []complex128{far, notFinite[4], none}, fault(api.ErrNaN, 1)},
		{square, []complex128{1, 1}, fault(api.ErrForm, 0)}, {square, []complex128{0, complex(minus, minus)}, fault(api.ErrForm, 0)}, {square, []complex128{complex(1, minus), complex(1, 0)}, fault(api.ErrForm, 0)},
		{cube, []complex128{1, 2, 2}, fault(api.ErrForm, 1)}, {cube, []complex128{2, 1, 2}, fault(api.ErrForm, 0)}, {cube, []complex128{2, 2i, 2i}, fault(api.ErrForm, 1)},
		// One by one: what is told first, of the first of them.
		{cube, []complex128{far, 2, 2}, fault(api.ErrRange, 0)}, {cube, []complex128{2, far, 2}, fault(api.ErrForm, 0)}, {cube, []complex128{far, 2, far}, fault(api.ErrForm, 0)},
		{cube, []complex128{1, far, far}, fault(api.ErrForm, 1)}, {cube, []complex128{1, 2, far}, fault(api.ErrRange, 2)}, {square, []complex128{far, farther}, fault(api.ErrRange, 0)},
		{[]complex128{1, complex(least, 0)}, []complex128{0}, fault(api.ErrRange, 0)}, {[]complex128{complex(most, most), 1}, []complex128{0}, fault(api.ErrRange, 0)},
		{[]complex128{0, 1}, []complex128{complex(most, least)}, fault(api.ErrRange, 0)}, {[]complex128{0, 1}, []complex128{far}, fine},
		{[]complex128{0, 0, 1}, []complex128{complex(0.5*most, 0), 0}, fine}, {[]complex128{0, 0, 1}, []complex128{complex(0.51*most, 0), 0}, fault(api.ErrRange, 0)},
	} {
		got, err := disc.Discs(c.p, c.near)
		if err != c.want || c.want != fine && got != nil {
			t.Errorf("Discs of %v and %v: %v %v, want %v", c.p, c.near, got, err, c.want)
		}
	}
}

// Each root lies in one of the discs; and if they lie apart, in one alone, that has no other.
func TestDiscsHaveTheRoots(t *testing.T) {
	next := stream(11)
	some := func() float64 { return float64(int64(next())>>11) * 0x1p-52 }
	lieApart := 0
	for range 400 {
		n := 1 + next()%8
		roots, near := make([]complex128, n), make([]complex128, n)
		off := math.Exp2(-float64(next() % 20))
		for i := range roots {
			roots[i] = complex(float64(next()%9)-4, float64(next()%9)-4)
			near[i] = roots[i] + complex(off*some(), off*some())
		}
		p := product(roots...)
		l, err := disc.Discs(p, near)
		if err != fine {
			t.Fatalf("Discs of %v and %v: %v", p, near, err)
		}
		ok, _ := disc.Apart(l)
		if ok {
			lieApart++
		}
		holders := map[int]int{}
		for _, z := range roots {
			holds := func(d api.Disc) bool { return disc.Holds(d, z) }
			i := slices.IndexFunc(l, holds)
			holders[i]++
			if i < 0 {
				t.Errorf("Discs of %v and %v: %v have not the root %v", p, near, l, z)
			}
			if ok && (slices.ContainsFunc(l[i+1:], holds) || holders[i] > 1) {
				t.Errorf("Discs of %v and %v: %v lie apart, but have the root %v twice", p, near, l, z)
			}
		}
	}
	if lieApart < 50 || lieApart > 350 {
		t.Errorf("of 400 lists %d lie apart", lieApart)
	}
}

func TestApart(t *testing.T) {
	for _, c := range []struct {
		l    []api.Disc
		want bool
	}{
		{nil, true},
		{[]api.Disc{at(1, 5)}, true},
		{[]api.Disc{at(0, 1), at(2, 1)}, false}, // they touch
		{[]api.Disc{at(0, 1), at(2, 0.9999999999999999)}, true},
		{[]api.Disc{at(0, 1), at(2.0000000000000004, 1)}, true},
		{[]api.Disc{at(0, 2), at(3+4i, 3)}, false},
		{[]api.Disc{at(0, 2), at(complex(3, 4.000000000000001), 3)}, true},
		{[]api.Disc{at(0, 9), at(1, 1)}, false}, // one within the other
		{[]api.Disc{at(1, 1), at(0, 9)}, false},
		{[]api.Disc{at(1, 0), at(1, 0)}, false},
		{[]api.Disc{at(0, minus), at(complex(minus, minus), 0)}, false},
		{[]api.Disc{at(1, 0), at(complex(1, least), 0)}, true},
		{[]api.Disc{at(1, 0), at(complex(1, least), least)}, false},
		{[]api.Disc{at(complex(-most, 0), most), at(complex(most, 0), most)}, false},
		{[]api.Disc{at(complex(-most, 0), most), at(complex(most, least), most)}, true}, // floats see no difference
		{[]api.Disc{at(0, 1), at(5, 1), at(10i, 1), at(-5, 1)}, true},
		{[]api.Disc{at(0, 1), at(5, 1), at(10i, 1), at(5+1i, 0)}, false},
		{[]api.Disc{at(0, 1), at(5, 1), at(10i, 1), at(1, 0)}, false},
		{[]api.Disc{at(0, 1), at(5, 1), at(5, 1)}, false},
	} {
		got, err := disc.Apart(c.l)
		told(t, "Apart", c.l, got, err, c.want, fine)
		back := slices.Clone(c.l)
		slices.Reverse(back)
		got, err = disc.Apart(back)
		told(t, "Apart", back, got, err, c.want, fine)
	}
}

func TestApartByTheChaptersWords(t *testing.T) {
	a, b := discs(12, 12), discs(13, 12)
	yes := 0
	for i, d := range a {
		for _, e := range []api.Disc{b[i], b[(i+7)%len(b)], at(d.Mid, 0), at(b[i].Mid, d.R)} {
			reach := plus(rat(d.R), rat(e.R))
			want := just(d.Mid).less(just(e.Mid)).norm().Cmp(times(reach, reach)) > 0
			got, err := disc.Apart([]api.Disc{d, e})
			told(t, "Apart", []api.Disc{d, e}, got, err, want, fine)
			if want {
				yes++
			}
		}
	}
	if yes < 500 || yes > 4*len(a)-500 {
		t.Errorf("of %d, %d lie apart", 4*len(a), yes)
	}
}

func TestApartOfManyDiscs(t *testing.T) {
	var l []api.Disc
	for i := range api.MaxPoints {
		l = append(l, at(complex(float64(i), 0), 0.25))
	}
	got, err := disc.Apart(l)
	told(t, "Apart", l, got, err, true, fine)
	l[3].R = 0.75
	got, err = disc.Apart(l)
	told(t, "Apart", l, got, err, false, fine)
	l[59].R, l[58].R = nan, -1
	got, err = disc.Apart(l)
	told(t, "Apart", l, got, err, false, fault(api.ErrRange, 58))
	l[58].Mid = complex(0, inf)
	got, err = disc.Apart(l)
	told(t, "Apart", l, got, err, false, fault(api.ErrNaN, 58))
	l[0].R = -least
	got, err = disc.Apart(l)
	told(t, "Apart", l, got, err, false, fault(api.ErrRange, 0))
	got, err = disc.Apart(append(l, at(0, 1)))
	told(t, "Apart", "too many", got, err, false, fault(api.ErrMany, 0))
	got, err = disc.Apart(make([]api.Disc, 1000))
	told(t, "Apart", "too many", got, err, false, fault(api.ErrMany, 0))
	got, err = disc.Apart([]api.Disc{at(0, -1)})
	told(t, "Apart", "one alone", got, err, false, fault(api.ErrRange, 0))
}

func TestListsAreLeftAsTheyWere(t *testing.T) {
	p, near := []complex128{-6, 11, -6, 1}, []complex128{1.25, 2, 3.5}
	q, m := spare(p, 7), spare(near, 9)
	l, _ := disc.Discs(q, m)
	kept(t, "Discs", q, p, 7)
	kept(t, "Discs", m, near, 9)
	if _, err := disc.Value(q, 3); err != fine {
		t.Error(err)
	}
	kept(t, "Value", q, p, 7)
	all := spare(l, at(1, 2))
	if _, err := disc.Apart(all); err != fine {
		t.Error(err)
	}
	kept(t, "Apart", all, l, at(1, 2))
	again, _ := disc.Discs(q, m)
	again[0] = at(5, 5)
	if l[0] == again[0] {
		t.Error("two answers of Discs share memory")
	}
}
