package geom_test

import (
	"slices"
	"testing"

	"enclosure/api"
	"enclosure/geom"
)

func TestHull(t *testing.T) {
	for _, c := range []struct{ l, want []api.Point }{
		{nil, nil},
		{[]api.Point{}, nil},
		{[]api.Point{pt(3, 4)}, []api.Point{pt(3, 4)}},
		{[]api.Point{pt(3, 4), pt(3, 4), pt(3, 4)}, []api.Point{pt(3, 4)}},
		{[]api.Point{pt(0, 0), pt(minus, 0), pt(0, minus)}, []api.Point{pt(0, 0)}},
		{[]api.Point{pt(2, 1), pt(1, 2)}, []api.Point{pt(1, 2), pt(2, 1)}},
		{[]api.Point{pt(2, 2), pt(0, 0), pt(1, 1), pt(3, 3), pt(1, 1)}, []api.Point{pt(0, 0), pt(3, 3)}},
		{[]api.Point{pt(1, 5), pt(1, -2), pt(1, 0)}, []api.Point{pt(1, -2), pt(1, 5)}},
		{[]api.Point{pt(5, 1), pt(-2, 1), pt(0, 1)}, []api.Point{pt(-2, 1), pt(5, 1)}},
		{[]api.Point{pt(0, 2), pt(2, 0), pt(0, 0)}, []api.Point{pt(0, 0), pt(2, 0), pt(0, 2)}},
		{[]api.Point{pt(1, 1), pt(0, 0), pt(2, 0), pt(1, 0), pt(0, 2), pt(0, 0)}, []api.Point{pt(0, 0), pt(2, 0), pt(0, 2)}},
		{ // each side has points between, and there are points within
			[]api.Point{pt(2, 2), pt(0, 1), pt(1, 2), pt(1, 1), pt(2, 1), pt(0, 0), pt(1, 0), pt(0, 2), pt(2, 0), pt(0.5, 1.5)},
			[]api.Point{pt(0, 0), pt(2, 0), pt(2, 2), pt(0, 2)},
		},
		{ // no point lies below and to the left
			[]api.Point{pt(0, 1), pt(1, 0), pt(2, 1), pt(1, 2), pt(1, 1)},
			[]api.Point{pt(0, 1), pt(1, 0), pt(2, 1), pt(1, 2)},
		},
		{ // by one last digit, in a row or not
			[]api.Point{pt(0.5, 0.5), pt(24, 24), pt(12, 12)},
			[]api.Point{pt(0.5, 0.5), pt(24, 24)},
		},
		{
			[]api.Point{pt(0.5, 0.5), pt(24, 24), pt(12, 12+0x1p-49)},
			[]api.Point{pt(0.5, 0.5), pt(24, 24), pt(12, 12+0x1p-49)},
		},
		{
			[]api.Point{pt(-most, -most), pt(most, most), pt(0, 0), pt(0, -least)},
			[]api.Point{pt(-most, -most), pt(0, -least), pt(most, most)},
		},
	} {
		got, fault := geom.Hull(c.l)
		if !slices.Equal(got, c.want) || fault != fine {
			t.Errorf("Hull of %v: %v %v, want %v", c.l, got, fault, c.want)
		}
	}
}

func TestHullOfMany(t *testing.T) {
	for n := 1; n <= api.MaxPoints; n = n*3/2 + 1 {
		for _, l := range figures(uint64(n), n, 9) {
			hulled(t, l)
		}
	}
	hulled(t, many(api.MaxPoints, nil))
	for _, l := range rows(10, 500) {
		hulled(t, l)
	}
}

// hulled fails unless the corners of l are corners, all there are, and in their order.
func hulled(t *testing.T, l []api.Point) {
	t.Helper()
	h, fault := geom.Hull(l)
	if fault != fine || len(h) == 0 {
		t.Errorf("Hull of %v: %v %v", l, h, fault)
		return
	}
	for _, p := range h {
		if !slices.Contains(l, p) {
			t.Errorf("Hull of %v: %v, and %v isn't among them", l, h, p)
		}
	}
	for _, p := range l {
		if p.X < h[0].X || p.X == h[0].X && p.Y < h[0].Y {
			t.Errorf("Hull of %v: %v, and %v is ahead", l, h, p)
		}
	}
	if len(h) < 3 {
		flat(t, l, h)
		return
	}
	for i, a := range h {
		b, c := h[(i+1)%len(h)], h[(i+2)%len(h)]
		if turned(a, b, a, c).Sign() != 1 {
			t.Errorf("Hull of %v: %v doesn't turn left at %v", l, h, b)
		}
		for _, p := range l {
			if turned(a, b, a, p).Sign() < 0 {
				t.Errorf("Hull of %v: %v, and %v lies outside", l, h, p)
			}
		}
	}
}

// flat fails unless h is both ends of the row in which l lies, or the one point it is.
func flat(t *testing.T, l, h []api.Point) {
	t.Helper()
	if len(h) == 2 && h[0] == h[1] {
		t.Errorf("Hull of %v: %v, the same twice", l, h)
	}
	for _, p := range l {
		if !touches(h[0], h[len(h)-1], p) {
			t.Errorf("Hull of %v: %v, and %v isn't between", l, h, p)
		}
	}
}

func TestWrongHull(t *testing.T) {
	for code, bad := range badFigures() {
		for _, l := range bad {
			got, fault := geom.Hull(l)
			if got != nil || fault != code {
				t.Errorf("Hull of %v: %v %v, want %v", l, got, fault, code)
			}
		}
	}
}

func TestHullIsNewMemory(t *testing.T) {
	for n := range api.MaxPoints + 1 {
		for _, was := range figures(uint64(11+n), n, 1) {
			l := spare(was)
			h, _ := geom.Hull(l)
			kept(t, "Hull", l, was)
			for i := range h[:cap(h)] {
				h[:cap(h)][i] = pt(-99, 99)
			}
			kept(t, "What is done with an answer of Hull", l, was)
			again, _ := geom.Hull(l)
			other, _ := geom.Hull(l)
			for i, p := range again {
				if !alike(p.X, other[i].X) || !alike(p.Y, other[i].Y) || p == pt(-99, 99) {
					t.Errorf("Hull of %v: %v, then %v", l, again, other)
				}
			}
		}
	}
}
