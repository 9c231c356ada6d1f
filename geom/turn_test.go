package geom_test

import (
	"math"
	"math/big"
	"testing"

	"enclosure/api"
	"enclosure/geom"
)

func TestTurn(t *testing.T) {
	for _, c := range []struct {
		a, b, c api.Point
		want    int
	}{
		{pt(0, 0), pt(1, 0), pt(0, 1), 1},
		{pt(0, 0), pt(0, 1), pt(1, 0), -1},
		{pt(1, 2), pt(2, 4), pt(3, 6), 0},
		{pt(1, 2), pt(1, 2), pt(3, 7), 0},
		{pt(1, 2), pt(3, 7), pt(1, 2), 0},
		{pt(3, 7), pt(1, 2), pt(1, 2), 0},
		{pt(0, minus), pt(1, 0), pt(2, minus), 0},
		{pt(0.5, 0.5), pt(12, 12), pt(24, 24), 0},
		{pt(math.Nextafter(0.5, 1), 0.5), pt(12, 12), pt(24, 24), -1},
		{pt(0.5, math.Nextafter(0.5, 1)), pt(12, 12), pt(24, 24), 1},
		{pt(0, 0), pt(least, 0), pt(0, least), 1},
		{pt(0, 0), pt(least, least), pt(most, most), 0},
		{pt(0, 0), pt(least, 2*least), pt(most, most), -1},
		{pt(-most, -most), pt(most, -most), pt(-most, most), 1},
		{pt(-most, -most), pt(0, 0), pt(most, most), 0},
		{pt(-most, -most), pt(0, least), pt(most, most), -1},
		{pt(-most, -most), pt(most, most), pt(0, least), 1},
		{pt(1, 0), pt(1+0x1p-52, 1), pt(1, least), 1},
	} {
		got, fault := geom.Turn(c.a, c.b, c.c)
		is(t, "Turn", c, got, fault, c.want, fine)
	}
}

func TestTurnIsExact(t *testing.T) {
	for _, l := range append(figures(1, 3, 300), rows(2, 3000)...) {
		a, b, c := l[0], l[1], l[2]
		got, fault := geom.Turn(a, b, c)
		is(t, "Turn", l, got, fault, turned(a, b, a, c).Sign(), fine)
		back, fault := geom.Turn(b, a, c)
		is(t, "Turn, the other way,", l, back, fault, -got, fine)
	}
}

func TestWrongTurn(t *testing.T) {
	wrong(t, "Turn", 3, func(l []api.Point) (int, api.Fault) { return geom.Turn(l[0], l[1], l[2]) })
}

// sound fails unless Fast, where it is sure, is right, and else 0.
func sound(t *testing.T, a, b, c api.Point) {
	t.Helper()
	want := turned(a, b, a, c).Sign()
	got, sure := geom.Fast(a, b, c)
	if sure && got != want || !sure && got != 0 {
		t.Errorf("Fast of %v %v %v: %d %v, want %d", a, b, c, got, sure, want)
	}
}

func TestFastIsRight(t *testing.T) {
	for _, l := range append(figures(3, 3, 2000), rows(4, 20000)...) {
		sound(t, l[0], l[1], l[2])
	}
	for i := range 64 {
		for k := range 64 {
			sound(t, pt(0.5+float64(i)*0x1p-53, 0.5+float64(k)*0x1p-53), pt(12, 12), pt(24, 24))
			sound(t, pt(0.5+float64(i)*0x1p-53, 0.5+float64(k)*0x1p-53), pt(17.3, 17.3), pt(24, 24))
			sound(t, pt(24, 24), pt(0.5+float64(i)*0x1p-53, 0.5+float64(k)*0x1p-53), pt(8.1, 8.1))
		}
	}
}

// Here both products lie around one and a half of the least float, where a last digit
// of a difference tells to which side they are rounded; or, with other sizes, as near
// to each other without that.
func TestFastIsRightAroundTheLeastFloats(t *testing.T) {
	next := stream(5)
	near := func(x float64) float64 { return x + float64(next()%9)*0x1p-52 - 0x1p-50 }
	for _, size := range []float64{0x1p-537, 0x1p-520, 0x1p-530, 1, 0x1p500} {
		for range 30000 {
			a := pt(float64(next()%17)*0x1p-54, float64(next()%17)*0x1p-54)
			b, c := pt(near(1.5), near(1.5)), pt(near(1), near(1))
			for _, p := range []*api.Point{&a, &b, &c} {
				p.X, p.Y = p.X*size, p.Y*size
			}
			sound(t, a, b, c)
		}
	}
}

func TestFastIsSure(t *testing.T) {
	const m = 1000000
	var l [][]api.Point
	for _, x := range []float64{-m, m} { // what turns least, of the longest ways
		l = append(l, []api.Point{pt(x, x), pt(-x, x+(-2*x)/m*(m-0.5)), pt(x+(-2*x)/m*(m-0.5), x+(-2*x)/m*(m-1))})
		l = append(l, []api.Point{pt(x, x), pt(-x, -x), pt(0, math.Copysign(1, x))})
		l = append(l, []api.Point{pt(x, x), pt(-x, x), pt(x, -x)}, []api.Point{pt(x, -x), pt(-x, -x), pt(x, x)})
	}
	next := stream(6)
	for i := range 20000 {
		whole := func() float64 { return float64(next()%(2*m+1)) - m }
		a, b, c := pt(whole(), whole()), pt(whole(), whole()), pt(whole(), whole())
		if i%2 == 0 { // nearly in a row
			share := float64(next()%1000) / 1000
			c = pt(math.Round(a.X+share*(b.X-a.X)), math.Round(a.Y+share*(b.Y-a.Y)))
		}
		l = append(l, []api.Point{a, b, c})
	}
	for _, one := range makers(7)[:2] {
		for range 500 {
			l = append(l, points(one, 3))
		}
	}
	for _, p := range l {
		want := turned(p[0], p[1], p[0], p[2]).Sign()
		if got, sure := geom.Fast(p[0], p[1], p[2]); want != 0 && (!sure || got != want) || want == 0 && got != 0 {
			t.Errorf("Fast of %v: %d %v, want %d", p, got, sure, want)
		}
	}
}

func TestFastIsNotSure(t *testing.T) {
	for _, l := range [][]api.Point{
		{pt(math.Nextafter(0.5, 1), 0.5), pt(12, 12), pt(24, 24)},
		{pt(-most, -most), pt(0, least), pt(most, most)},
		{pt(0, 0), pt(least, 2*least), pt(3*least, 5*least)},
	} {
		if got, sure := geom.Fast(l[0], l[1], l[2]); sure || got != 0 {
			t.Errorf("Fast of %v: %d %v, want 0 false", l, got, sure)
		}
	}
	for i := range 3 {
		for _, p := range badPoints() {
			l := []api.Point{pt(0, 0), pt(3, 1), pt(1, 5)}
			l[i] = p
			if got, sure := geom.Fast(l[0], l[1], l[2]); sure || got != 0 {
				t.Errorf("Fast of %v: %d %v, want 0 false", l, got, sure)
			}
		}
	}
}

// around is what P6.2 asks the sign of.
func around(a, b, c, d api.Point) *big.Rat {
	norm := func(p api.Point) *big.Rat {
		x, y := away(p.X, d.X), away(p.Y, d.Y)
		return plus(times(x, x), times(y, y))
	}
	sum := times(norm(a), turned(d, b, d, c))
	sum.Add(sum, times(norm(b), turned(d, c, d, a)))
	return sum.Add(sum, times(norm(c), turned(d, a, d, b)))
}

func TestCircle(t *testing.T) {
	for _, c := range []struct {
		a, b, c, d api.Point
		want       int
	}{
		{pt(0, 0), pt(1, 0), pt(0, 1), pt(0.5, 0.5), 1},
		{pt(0, 0), pt(1, 0), pt(0, 1), pt(1, 1), 0},
		{pt(0, 0), pt(1, 0), pt(0, 1), pt(2, 2), -1},
		{pt(0, 0), pt(0, 1), pt(1, 0), pt(0.5, 0.5), -1}, // they turn right
		{pt(0, 0), pt(1, 0), pt(0, 1), pt(math.Nextafter(1, 0), 1), 1},
		{pt(0, 0), pt(1, 0), pt(0, 1), pt(1, math.Nextafter(1, 2)), -1},
		{pt(3, 4), pt(-5, 0), pt(4, -3), pt(0, 5), 0},
		{pt(3, 4), pt(-5, 0), pt(4, -3), pt(least, 5), -1},
		{pt(3, 4), pt(-5, 0), pt(4, -3), pt(least, -5), -1},
		{pt(3, 4), pt(-5, 0), pt(4, -3), pt(0, math.Nextafter(5, 0)), 1},
		{pt(0, 0), pt(1, 0), pt(2, 0), pt(1, 1), 1}, // in a row: d lies to the left of it
		{pt(0, 0), pt(1, 0), pt(2, 0), pt(1, -1), -1},
		{pt(0, 0), pt(1, 0), pt(2, 0), pt(9, 0), 0},
		{pt(0, 0), pt(0, 0), pt(2, 0), pt(1, 1), 0},
		{pt(0, 0), pt(1, 0), pt(0, 1), pt(0, minus), 0},
		{pt(-most, -most), pt(most, -most), pt(most, most), pt(-most, most), 0},
		{pt(-most, -most), pt(most, -most), pt(most, most), pt(-most, math.Nextafter(most, 0)), 1},
		{pt(0, 0), pt(least, 0), pt(0, least), pt(least, least), 0},
		{pt(0, 0), pt(least, 0), pt(0, least), pt(2*least, 0), -1},
		{pt(0, 0), pt(2*least, 0), pt(0, 2*least), pt(least, least), 1},
		{pt(0, 0), pt(most, 0), pt(0, most), pt(least, least), 1},
		{pt(0, 0), pt(most, 0), pt(0, most), pt(least, -least), -1},
	} {
		got, fault := geom.Circle(c.a, c.b, c.c, c.d)
		is(t, "Circle", c, got, fault, c.want, fine)
	}
}

// rounds: four points on one circle, and some of them with a digit more or less.
func rounds(seed uint64, count int) [][]api.Point {
	next := stream(seed)
	rim := [][2]float64{{63, 16}, {60, 25}, {56, 33}, {52, 39}, {39, 52}, {33, 56}, {25, 60}, {16, 63}, {0, 65}, {65, 0}}
	var l [][]api.Point
	for i := range count {
		size := []float64{1, 0.1, 0x1p-1074, 0x1p1000, 0x1p-540}[next()%5]
		var four []api.Point
		for range 4 {
			w := next()
			p := rim[w>>8%10]
			q := pt(math.Copysign(p[0], float64(w%2)-0.5)*size, math.Copysign(p[1], float64(w>>1%2)-0.5)*size)
			if i%2 == 0 && w>>2%4 == 0 {
				q.X = math.Nextafter(q.X, float64(w>>4%3)-1)
			}
			four = append(four, q)
		}
		l = append(l, four)
	}
	return l
}

func TestCircleIsExact(t *testing.T) {
	for _, l := range append(figures(8, 4, 150), rounds(9, 3000)...) {
		a, b, c, d := l[0], l[1], l[2], l[3]
		got, fault := geom.Circle(a, b, c, d)
		is(t, "Circle", l, got, fault, around(a, b, c, d).Sign(), fine)
		back, fault := geom.Circle(b, a, c, d)
		is(t, "Circle, the other way,", l, back, fault, -got, fine)
	}
}

func TestWrongCircle(t *testing.T) {
	wrong(t, "Circle", 4, func(l []api.Point) (int, api.Fault) { return geom.Circle(l[0], l[1], l[2], l[3]) })
}
