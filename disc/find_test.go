package disc_test

import (
	"math"
	"math/cmplx"
	"slices"
	"testing"

	"enclosure/api"
	"enclosure/disc"
)

// found is Find of p, which is good: as many finite numbers as it has roots, no two the same.
func found(t *testing.T, p []complex128) []complex128 {
	t.Helper()
	l, err := disc.Find(p)
	if err != fine || len(l) != len(p)-1 {
		t.Fatalf("Find of %v: %v %v", p, l, err)
	}
	for i, z := range l {
		if !finite(z) || slices.Contains(l[:i], z) {
			t.Errorf("Find of %v: %v", p, l)
		}
	}
	return l
}

// discsAround are the discs around what is found, none farther than so many times as far
// as its middle is from 0 (or than a little more than the least floats, about 0).
func discsAround(t *testing.T, p []complex128, far float64) []api.Disc {
	t.Helper()
	l, err := disc.Discs(p, found(t, p))
	if err != fine {
		t.Errorf("Discs around what is found of %v: %v", p, err)
	}
	for _, d := range l {
		if d.R > far*cmplx.Abs(d.Mid)+0x1p-1040 {
			t.Errorf("Find of %v: the disc %v", p, d)
		}
	}
	return l
}

// parted fails unless the discs lie apart.
func parted(t *testing.T, p []complex128, l []api.Disc) {
	t.Helper()
	if ok, err := disc.Apart(l); !ok || err != fine {
		t.Errorf("Find of %v: %v don't lie apart: %v", p, l, err)
	}
}

// small is 16 times the step of the floats from 1 on.
const small = 0x1p-48

func TestFindOfRootsThatAreFloats(t *testing.T) {
	for _, roots := range [][]complex128{
		{3}, {-0.1}, {2i}, {1, 2}, {1, 2, 3}, {1i, -1i}, {1 + 1i, 1 - 1i, 2}, {5, -5, 5i, -5i}, {0, 1}, {0, -1i, 7},
		{1, 2, 3, 4, 5, 6, 7, 8, 9, 10, 11, 12}, {1, -1, 2, -2, 1i, -1i, 2i, -2i, 1 + 1i, 1 - 1i, -1 + 1i, -1 - 1i},
		{1, 1024}, {0.001, 1000i}, {1, 1.0009765625}, {0x1p-300, 1}, {0x1p-300, 0x1p-100i, -0x1p300}, {0x1p500, -0x1p500}, {complex(0, most)}, {complex(least, 0)},
	} {
		p := product(roots...)
		l := discsAround(t, p, small)
		parted(t, p, l)
		for _, z := range roots {
			if !slices.ContainsFunc(l, func(d api.Disc) bool { return disc.Holds(d, z) }) {
				t.Errorf("Find of %v: %v have not the root %v", p, l, z)
			}
		}
	}
}

// Where all roots are small whole numbers, they are found as such.
func TestFindOfWholeRoots(t *testing.T) {
	for _, roots := range [][]complex128{{3}, {1i, 2}, {1, 2, 3}, {-2, -1, 1, 2}, {0, 4}, {1, 2, 3, 4, 5, 6, 7, 8, 9, 10, 11, 12}} {
		l := found(t, product(roots...))
		for _, z := range roots {
			if !slices.Contains(l, z) {
				t.Errorf("Find of %v: %v", product(roots...), l)
			}
		}
	}
}

// Roots of some families lie well apart; floats are right to the last digit there.
func TestFindOfRootsApart(t *testing.T) {
	next := stream(14)
	some := func() float64 { return float64(int64(next())>>11) * 0x1p-52 }
	for range 60 {
		n := 2 + int(next()%api.MaxDegree)
		p, q, r := make([]complex128, n), make([]complex128, n), make([]complex128, n)
		for k := range n {
			p[k] = complex(some(), some())
			q[k] = complex(some()*math.Exp2(float64(next()%200)-100), 0)
			r[k] = complex(math.Exp2(-float64(k*k))*some(), some()*math.Exp2(-float64(k*k)))
		}
		for _, l := range [][]complex128{p, q, r} {
			parted(t, l, discsAround(t, l, small))
		}
	}
	for n := 2; n <= api.MaxDegree; n++ {
		p := make([]complex128, n+1)
		p[0], p[n] = -1, 1
		parted(t, p, discsAround(t, p, small))
		p[0], p[1], p[n] = 1, 0x1p-50i, -1
		parted(t, p, discsAround(t, p, small))
		p[0] = 1
		for k := 1; k <= n; k++ {
			p[k] = p[k-1] / complex(float64(k), 0)
		}
		parted(t, p, discsAround(t, p, small))
	}
	// Two numbers may have gone for one root, and stand in each other's shadow then.
	for _, p := range [][]complex128{
		{-2i, 0, 2 + 2i, 1 + 1i, 0, 2 + 2i, 2i, 1, 3 - 3i, 1}, {3 + 1i, -3 - 1i, 0, 2 - 2i, 0, 0, 0, -3i, 0, 0, 1}, {-3, 3 - 2i, 2 - 2i, 2 - 2i, 1 - 3i, -3i, 3, -1 + 3i, 3i, -3 + 2i, -1 + 1i, 1 + 3i, 1},
		{-64i, 64i, 24 - 32i, -28 + 12i, 16 - 6i, -6 + 2i, 1}, {-3 + 2i, -1 + 2i, -1 + 3i, 2 - 2i, 1, 3 - 3i, 3 + 3i, -1i, 1 + 1i, -3i, 1 + 3i, 2 + 2i, 1}, {1i, 2, 0, 0, 1 + 2i, 0, 0, 3 + 1i, 1 - 2i, 1},
		{1, 0.8492442073481717, 0.047495085120243044, 0.5921313187872815, 2.2820665162061227e-06, 0.03888215995246485, 1.0946532978768021e-15, 7.568436231338106e-13, 2.3123441380193532e-05, 5.858681076959016e-21, 0.0006185661306976074, 1.0378086840147156e-19, 8.240166011124948e-27},
	} {
		discsAround(t, p, small)
	}
	// As far from each other as floats don't reach.
	for _, p := range [][]complex128{{complex(-most, 0), 0, 0x1p-1023}, {complex(0, most), 0, 0x1p-1023 + 0x1p-1024i}, {complex(-most, 0), 0x1p-300, 0x1p-1023}} {
		parted(t, p, discsAround(t, p, small))
	}
}

// Of numbers of all sizes; but where a root is farther than floats reach, as then no
// number near it makes the discs around the others small.
func TestFindOfAllSizes(t *testing.T) {
	near := 0
	for _, part := range makers(15) {
		for n := 1; n <= api.MaxDegree; n++ {
			p := numbers(n+1, part)
			if p[n] == 0 {
				p[n] = complex(least, 0)
			}
			l := found(t, p)
			if slices.ContainsFunc(l, func(z complex128) bool { return max(math.Abs(real(z)), math.Abs(imag(z))) > most/4 }) {
				continue
			}
			near++
			discsAround(t, p, small)
		}
	}
	if near < 60 {
		t.Errorf("only %d polynomials have near roots", near)
	}
}

// Roots at one place, or so close that floats alone can't tell them apart.
func TestFindOfRootsTogether(t *testing.T) {
	for _, p := range [][]complex128{
		product(1, 1), product(1i, 1i, 1i), {1, -6, 9}, {-1, 9, -27, 27}, {1, -12, 54, -108, 81}, {0.25, 1, 1}, {1, 4, 4}, {complex(most/4, 0), complex(-most, 0), complex(most, 0)},
		product(1, 1, 1, 1, 1, 1, 1, 1, 1, 1, 1, 1), product(1, 1, 2, 2, 3, 3, 4, 4, 5, 5, 6, 6), product(1i, 1i, 1i, 2, 2, 2, -1i, -1i, -1i, 4, 4, 4), product(-1, -1, -1, -1, 1, 1, 1, 1, 3),
		// Floats lead the numbers astray here.
		{-1.022160384, 3.04416, -3.0220000000000002, 1}, {-1.0201454706643198, 7.120726881992638, -21.301452821992317, 35.40145188066399, -35.300725469999996, 21.120145, -7.02, 1},
	} {
		discsAround(t, p, small)
	}
	next := stream(16)
	for range 30 {
		roots := make([]complex128, 2+next()%(api.MaxDegree-1))
		step := []float64{0x1p-10, 0x1p-20, 0x1p-30}[next()%3]
		for i := range roots {
			roots[i] = complex(1+float64(next()%4)*step, float64(next()%3)*float64(next()%2))
		}
		discsAround(t, product(roots...), small)
	}
}

func TestFindOfRootsAtZero(t *testing.T) {
	// Another root is one of the least floats.
	for _, p := range [][]complex128{{0, complex(-least, 0), 1}, {0, 0, complex(-least, 0), 1}, {0, 0, 0, complex(-2*least, 0), 1}} {
		discsAround(t, p, small)
		if l := found(t, p); !slices.Contains(l, 0) {
			t.Errorf("Find of %v: %v", p, l)
		}
	}
	for n := 1; n <= api.MaxDegree; n++ {
		for k := 1; k <= n; k++ {
			p := make([]complex128, n+1)
			for i := k; i <= n; i++ {
				p[i] = complex(float64(i), -1)
			}
			l := discsAround(t, p, small)
			zeros := 0
			for _, d := range l {
				if cmplx.Abs(d.Mid) < 0x1p-1000 {
					zeros++
				}
			}
			if zeros != k || !disc.Holds(l[len(l)-k], 0) {
				t.Errorf("Find of %v: %v", p, l)
			}
		}
	}
}

// Roots that are farther from 0 than floats, or nearer to it.
func TestFindOfRootsBeyond(t *testing.T) {
	tiny, huge := complex(least, 0), complex(most, most)
	for _, p := range [][]complex128{
		{1, tiny}, {huge, tiny}, {huge, 1}, {1, 0, tiny}, {huge, 0, 0, tiny}, {huge, 0, 0, 0, 0, 0, 0, 0, 0, 0, 0, 0, tiny}, {huge, tiny, tiny, tiny, tiny}, {1, 1, tiny}, {1, huge, 1, tiny, tiny},
		{tiny, 1}, {tiny, huge}, {tiny, 0, huge}, {tiny, tiny, huge}, {tiny, tiny, tiny, tiny, tiny, tiny, tiny, tiny, tiny, tiny, tiny, tiny, huge}, {tiny, huge, tiny, huge}, {0, tiny, huge}, {0, 0, tiny, huge, huge},
		{tiny, tiny}, {tiny, tiny, tiny}, {huge, huge}, {huge, huge, huge},
	} {
		found(t, p)
	}
	for _, p := range [][]complex128{{tiny, 1}, {tiny, huge}, {0, tiny, huge}, {tiny, tiny, huge}} {
		discsAround(t, p, small)
	}
}

func TestFindAnswersNewMemory(t *testing.T) {
	p := []complex128{0, 0, -6, 11, -6, 1}
	q := spare(p, 7)
	l, again := found(t, q), found(t, q)
	kept(t, "Find", q, p, 7)
	if !slices.Equal(l, again) {
		t.Errorf("Find of %v: %v, and %v", p, l, again)
	}
	l[0]++
	if l[0] == again[0] {
		t.Error("two answers of Find share memory")
	}
	if third := found(t, q); !slices.Equal(third, again) {
		t.Errorf("Find of %v: %v, and %v", p, again, third)
	}
}
