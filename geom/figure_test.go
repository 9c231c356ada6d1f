package geom_test

import (
	"math/big"
	"slices"
	"strconv"
	"testing"

	"enclosure/api"
	"enclosure/geom"
)

func TestMeets(t *testing.T) {
	for _, c := range []struct {
		a, b, c, d api.Point
		want       bool
	}{
		{pt(0, 0), pt(2, 2), pt(0, 2), pt(2, 0), true},
		{pt(0, 0), pt(2, 0), pt(1, -1), pt(1, 1), true},
		{pt(0, 0), pt(2, 0), pt(2, 0), pt(3, 3), true}, // end to end
		{pt(0, 0), pt(2, 0), pt(1, 0), pt(1, 5), true}, // an end on a way
		{pt(0, 0), pt(2, 0), pt(1, least), pt(1, 5), false},
		{pt(0, 0), pt(2, 0), pt(3, -1), pt(3, 1), false}, // the line is crossed, the way isn't
		{pt(0, 0), pt(2, 0), pt(3, 0), pt(5, 7), false},  // an end in its row, behind it
		{pt(0, 0), pt(2, 0), pt(0, 1), pt(2, 1), false},  // side by side
		{pt(0, 0), pt(2, 0), pt(3, 0), pt(4, 0), false},  // in a row, apart
		{pt(0, 0), pt(2, 0), pt(2, 0), pt(4, 0), true},   // in a row, end to end
		{pt(0, 0), pt(2, 0), pt(1, 0), pt(5, 0), true},   // in a row, over each other
		{pt(0, 0), pt(9, 9), pt(2, 2), pt(3, 3), true},   // one within the other
		{pt(0, 0), pt(0, 2), pt(0, 3), pt(0, 9), false},
		{pt(0, 0), pt(0, 2), pt(0, 1), pt(0, 9), true},
		{pt(1, 1), pt(1, 1), pt(0, 0), pt(2, 2), true}, // a point on a way
		{pt(1, 1), pt(1, 1), pt(0, 0), pt(0.5, 0.5), false},
		{pt(1, 1), pt(1, 1), pt(0, 0), pt(3, 2), false},
		{pt(1, 1), pt(1, 1), pt(1, 1), pt(1, 1), true},
		{pt(1, 1), pt(1, 1), pt(1, 2), pt(1, 2), false},
		{pt(0, 0), pt(minus, minus), pt(minus, 0), pt(0, 0), true},
		{pt(-most, -most), pt(most, most), pt(0, 0), pt(1, 0), true},
		{pt(-most, -most), pt(most, most), pt(least, 0), pt(1, 0), false},
		{pt(-most, -most), pt(most, most), pt(least, 0), pt(0, least), true},
		{pt(0.5, 0.5), pt(24, 24), pt(12, 12), pt(13, 0), true},
		{pt(0.5+0x1p-53, 0.5), pt(24, 24), pt(12, 12), pt(13, 0), true},
		{pt(0.5, 0.5+0x1p-53), pt(24, 24), pt(12, 12), pt(13, 0), false},
	} {
		eight(t, c.a, c.b, c.c, c.d, c.want)
	}
}

// eight asks with both ways turned round, and one for the other.
func eight(t *testing.T, a, b, c, d api.Point, want bool) {
	t.Helper()
	for _, l := range [][4]api.Point{{a, b, c, d}, {b, a, c, d}, {a, b, d, c}, {b, a, d, c}, {c, d, a, b}, {d, c, a, b}, {c, d, b, a}, {d, c, b, a}} {
		got, fault := geom.Meets(l[0], l[1], l[2], l[3])
		is(t, "Meets", l, got, fault, want, fine)
	}
}

// met is what P6.4 asks: reckoned by where the lines cross, if they do.
func met(a, b, c, d api.Point) bool {
	bend := turned(a, b, c, d)
	if bend.Sign() == 0 { // side by side, in a row, or points: an end is on the other way, or nothing is
		return touches(a, b, c) || touches(a, b, d) || touches(c, d, a) || touches(c, d, b)
	}
	share := func(v *big.Rat) bool {
		v = new(big.Rat).Quo(v, bend)
		return v.Sign() >= 0 && v.Cmp(big.NewRat(1, 1)) <= 0
	}
	return share(turned(a, c, c, d)) && share(turned(a, c, a, b))
}

func TestMeetsIsExact(t *testing.T) {
	count := [2]int{}
	for _, l := range figures(12, 4, 150) {
		want := met(l[0], l[1], l[2], l[3])
		eight(t, l[0], l[1], l[2], l[3], want)
		if want {
			count[1]++
		} else {
			count[0]++
		}
	}
	for _, l := range rows(13, 300) {
		d := pt(l[2].Y, -l[2].X)
		eight(t, l[0], l[1], l[2], d, met(l[0], l[1], l[2], d))
		eight(t, l[0], l[2], l[1], d, met(l[0], l[2], l[1], d))
	}
	if min(count[0], count[1]) < 300 {
		t.Errorf("%d apart, %d not", count[0], count[1])
	}
}

func TestWrongMeets(t *testing.T) {
	wrong(t, "Meets", 4, func(l []api.Point) (bool, api.Fault) { return geom.Meets(l[0], l[1], l[2], l[3]) })
}

func TestWhere(t *testing.T) {
	square := []api.Point{pt(0, 0), pt(2, 0), pt(2, 2), pt(0, 2)}
	bent := []api.Point{pt(0, 0), pt(4, 0), pt(4, 4), pt(2, 1), pt(0, 4)} // with a dent from above
	bow := []api.Point{pt(0, 0), pt(2, 2), pt(2, 0), pt(0, 2)}            // it crosses itself
	twice := slices.Concat(square, square)
	tip := []api.Point{pt(0, 0), pt(4, -2), pt(4, 2)}
	row := []api.Point{pt(0, 0), pt(4, 0), pt(2, 0)}
	for _, c := range []struct {
		figure []api.Point
		p      api.Point
		want   int
	}{
		{square, pt(1, 1), 1}, {square, pt(3, 1), -1}, {square, pt(-1, 1), -1}, {square, pt(1, 3), -1}, {square, pt(1, -1), -1},
		{square, pt(0, 0), 0}, {square, pt(2, 0), 0}, {square, pt(2, 2), 0}, {square, pt(0, 2), 0},
		{square, pt(1, 0), 0}, {square, pt(2, 1), 0}, {square, pt(1, 2), 0}, {square, pt(0, 1), 0},
		{square, pt(-1, 0), -1}, {square, pt(-1, 2), -1}, {square, pt(3, 0), -1}, {square, pt(3, 2), -1}, // in a row with a side
		{square, pt(least, least), 1}, {square, pt(-least, least), -1}, {square, pt(2-0x1p-52, 1), 1}, {square, pt(2+0x1p-51, 1), -1},
		{bent, pt(2, 0.5), 1}, {bent, pt(2, 1), 0}, {bent, pt(2, 1+0x1p-52), -1}, {bent, pt(2, 1-0x1p-53), 1},
		{bent, pt(0.5, 3), 1}, {bent, pt(3.5, 3), 1}, {bent, pt(2, 3), -1}, {bent, pt(1, 1), 1}, {bent, pt(-1, 1), -1},
		{bow, pt(1.5, 1), 1}, {bow, pt(0.5, 1), 1}, {bow, pt(1, 1), 0}, {bow, pt(1, 1.5), -1}, {bow, pt(1, 0.5), -1},
		{twice, pt(1, 1), -1}, {twice, pt(2, 1), 0}, {twice, pt(3, 1), -1}, // crossed twice
		{tip, pt(2, 0), 1}, {tip, pt(-1, 0), -1}, {tip, pt(-1, -2), -1}, {tip, pt(-1, 2), -1},
		{row, pt(1, 0), 0}, {row, pt(3, 0), 0}, {row, pt(5, 0), -1}, {row, pt(-1, 0), -1}, {row, pt(1, 1), -1},
		{nil, pt(0, 0), -1}, {[]api.Point{}, pt(1, 1), -1},
		{square[:1], pt(0, minus), 0}, {square[:1], pt(-1, 0), -1}, {square[:1], pt(1, 0), -1},
		{square[:2], pt(1, 0), 0}, {square[:2], pt(3, 0), -1}, {tip[1:], pt(4, 0), 0}, {tip[1:], pt(3, 0), -1},
		{[]api.Point{pt(-most, -most), pt(most, -most), pt(most, most)}, pt(0, 0), 0},
		{[]api.Point{pt(-most, -most), pt(most, -most), pt(most, most)}, pt(0, -least), 1},
		{[]api.Point{pt(-most, -most), pt(most, -most), pt(most, most)}, pt(0, least), -1},
	} {
		for _, figure := range [][]api.Point{c.figure, backwards(c.figure)} {
			got, fault := geom.Where(figure, c.p)
			is(t, "Where", [][]api.Point{figure, {c.p}}, got, fault, c.want, fine)
		}
	}
}

func backwards(figure []api.Point) []api.Point {
	l := slices.Clone(figure)
	slices.Reverse(l)
	return l
}

// place is what P6.4 says, word by word.
func place(figure []api.Point, p api.Point) int {
	crossed := 0
	for i, a := range figure {
		b := figure[(i+1)%len(figure)]
		if touches(a, b, p) {
			return 0
		}
		if (a.Y > p.Y) == (b.Y > p.Y) {
			continue
		}
		share := new(big.Rat).Quo(away(p.Y, a.Y), away(b.Y, a.Y))
		if plus(rat(a.X), times(share, away(b.X, a.X))).Cmp(rat(p.X)) > 0 {
			crossed++
		}
	}
	if crossed%2 == 1 {
		return 1
	}
	return -1
}

func TestWhereIsExact(t *testing.T) {
	count := map[int]int{}
	for n := range 12 {
		for _, l := range figures(uint64(20+n), n+1, 60) {
			figure, p := l[:n], l[n]
			if n > 1 && p.X > 0 { // between two of its points
				p = pt(l[0].X/2+l[n-1].X/2, l[0].Y/2+l[n-1].Y/2)
			}
			want := place(figure, p)
			got, fault := geom.Where(figure, p)
			is(t, "Where", [][]api.Point{figure, {p}}, got, fault, want, fine)
			count[want]++
		}
	}
	for _, l := range figures(40, api.MaxPoints, 3) {
		p := pt(l[7].X, l[8].Y)
		got, fault := geom.Where(l, p)
		is(t, "Where", [][]api.Point{l, {p}}, got, fault, place(l, p), fine)
	}
	if min(count[-1], count[0], count[1]) < 300 {
		t.Errorf("how many lie where: %v", count)
	}
}

func TestWrongWhere(t *testing.T) {
	for code, bad := range badFigures() {
		for _, l := range bad {
			for _, p := range append(badPoints(), pt(1, 1)) {
				got, fault := geom.Where(l, p)
				is(t, "Where", [][]api.Point{l, {p}}, got, fault, 0, code)
			}
		}
	}
	for _, n := range []int{0, 1, 4, api.MaxPoints} {
		for _, p := range badPoints() {
			got, fault := geom.Where(many(n, nil), p)
			is(t, "Where", p, got, fault, 0, notFinite(n))
		}
	}
	got, fault := geom.Where(many(api.MaxPoints, nil), pt(1, 2))
	is(t, "Where of as many points as there may be,", api.MaxPoints, got, fault, 1, fine)
}

func TestArea(t *testing.T) {
	square := []api.Point{pt(0, 0), pt(2, 0), pt(2, 2), pt(0, 2)}
	for _, c := range []struct {
		figure             []api.Point
		near, down, up, in float64
	}{
		{nil, 0, 0, 0, 0},
		{[]api.Point{pt(3, 4)}, 0, 0, 0, 0},
		{[]api.Point{pt(3, 4), pt(1e300, -1e300)}, 0, 0, 0, 0},
		{[]api.Point{pt(0, 0), pt(1, 0), pt(0, 1)}, 1, 1, 1, 1},
		{square, 8, 8, 8, 8},
		{backwards(square), -8, -8, -8, -8},
		{slices.Concat(square, square), 16, 16, 16, 16},
		{[]api.Point{pt(0, 0), pt(2, 2), pt(2, 0), pt(0, 2)}, 0, 0, 0, 0},
		{[]api.Point{pt(1e16, 1e16), pt(1e16+2, 1e16), pt(1e16, 1e16+2)}, 4, 4, 4, 4},
		{[]api.Point{pt(0, 0), pt(1, 0), pt(0x1p-53, 1), pt(0, 1)}, 1, 1, 1 + 0x1p-52, 1}, // 1 + 2^-53
		{[]api.Point{pt(0, 1), pt(0x1p-53, 1), pt(1, 0), pt(0, 0)}, -1, -1 - 0x1p-52, -1, -1},
		// What is too great, on the way or at last, and what is too low.
		{[]api.Point{pt(0, 0), pt(most, 0), pt(most, most)}, inf, most, inf, most},
		{[]api.Point{pt(0, 0), pt(most, most), pt(most, 0)}, -inf, -inf, -most, -most},
		{[]api.Point{pt(-most, -1), pt(-most, -most), pt(most, 1), pt(most, most)}, inf, most, inf, most},
		{[]api.Point{pt(0, 0), pt(most, 1), pt(most, most), pt(1, most)}, inf, most, inf, most},
		{[]api.Point{pt(-most, -most), pt(most, most), pt(0, 0x1p-1023)}, 0x1p2 - 0x1p-51, 0x1p2 - 0x1p-51, 0x1p2 - 0x1p-51, 0x1p2 - 0x1p-51},
		{[]api.Point{pt(0, 0), pt(least, 0), pt(0, least)}, 0, 0, least, 0},
		{[]api.Point{pt(0, 0), pt(0, least), pt(least, 0)}, 0, -least, 0, 0},
	} {
		for i, want := range []float64{c.near, c.down, c.up, c.in} {
			got, fault := geom.Area(c.figure, modes[i])
			is(t, "Area, mode "+strconv.Itoa(modes[i])+",", c.figure, got, fault, want, fine)
		}
	}
}

func TestAreaIsRoundedOnce(t *testing.T) {
	for n := range 13 {
		for _, l := range figures(uint64(50+n), n*n*5/12, 20) {
			sum := new(big.Rat)
			for i, a := range l {
				b := l[(i+1)%len(l)]
				sum.Add(sum, turned(pt(0, 0), a, pt(0, 0), b))
			}
			for _, mode := range modes {
				got, fault := geom.Area(l, mode)
				is(t, "Area, mode "+strconv.Itoa(mode)+",", l, got, fault, rounded(sum, mode), fine)
			}
		}
	}
}

func TestWrongArea(t *testing.T) {
	for code, bad := range badFigures() {
		for _, l := range bad {
			for _, mode := range slices.Concat(modes, noModes) {
				got, fault := geom.Area(l, mode)
				is(t, "Area", l, got, fault, 0, code)
			}
		}
	}
	for _, mode := range noModes {
		for _, n := range []int{0, 1, 4, api.MaxPoints} {
			got, fault := geom.Area(many(n, nil), mode)
			is(t, "Area in no mode", n, got, fault, 0, api.Fault{Code: api.ErrRange})
		}
	}
}

func TestFiguresAreOnlyRead(t *testing.T) {
	for n := range api.MaxPoints + 1 {
		for _, was := range figures(uint64(70+n), n, 1) {
			l := spare(was)
			geom.Where(l, pt(1, 1))
			geom.Where(l, pt(nan, 1))
			kept(t, "Where", l, was)
			geom.Area(l, api.Up)
			kept(t, "Area", l, was)
		}
	}
}
