package wave

import (
	"math"
	"sync"

	"enclosure/api"
	"enclosure/exact"
	"enclosure/nums"
)

// longest has the roots of the longest row: at the place k e to the power of
// -2 pi i k / api.MaxWave, both parts rounded. They are kept as they take long.
var longest struct {
	once  sync.Once
	roots [api.MaxWave]complex128
}

// circle is the roots of the longest row.
func circle() [api.MaxWave]complex128 {
	longest.once.Do(func() {
		for k := range api.MaxWave {
			longest.roots[k] = complex(across(k), across(k+api.MaxWave/4))
		}
	})
	return longest.roots
}

// across is the real part of the k-th root, rounded; the imaginary part of a root is
// the real one of that which lies a quarter of the way further.
func across(k int) float64 {
	k %= api.MaxWave
	x, _ := cosine(min(k, api.MaxWave-k)).Float(api.Near)
	return x
}

// cosine is that of 2 pi k / api.MaxWave, where k is no more than half of api.MaxWave,
// off by less than 2^-100: so it is rounded as the true one is, none of which lies so
// near to the middle of two floats.
func cosine(k int) exact.Num {
	switch {
	case k == 0:
		return exact.Int(1)
	case k == api.MaxWave/4:
		return exact.Num{}
	case k > api.MaxWave/4:
		return cosine(api.MaxWave/2 - k).Neg()
	}
	return root(half(cosine(2 * k).Add(exact.Int(1))))
}

// root is near the root of x: the nearest float is off by one part of 2^53, at most;
// one step of Newton's way squares that.
func root(x exact.Num) exact.Num {
	near, _ := x.Root(api.Near)
	v := nums.Just(near)
	w, _ := x.Quo(v)
	return half(v.Add(w))
}

func half(x exact.Num) exact.Num {
	v, _ := x.Quo(exact.Int(2))
	return v
}

// inFloats is how complex numbers of floats are reckoned with. Each product of two
// parts is rounded by itself, on all machines.
func inFloats() reckoning[complex128] {
	return reckoning[complex128]{
		add: func(a, b complex128) complex128 { return a + b },
		sub: func(a, b complex128) complex128 { return a - b },
		mul: func(a, b complex128) complex128 {
			x := float64(real(a)*real(b)) - float64(imag(a)*imag(b))
			y := float64(real(a)*imag(b)) + float64(imag(a)*real(b))
			return complex(x, y)
		},
	}
}

// swung is the transform of l in floats, or the way back.
func swung(l []complex128, back bool) []complex128 {
	n := len(l)
	all := circle()
	roots := make([]complex128, n)
	for k := range roots {
		z := all[k*(api.MaxWave/n)]
		if back {
			z = complex(real(z), -imag(z))
		}
		roots[k] = z
	}
	row := through(l, roots, inFloats())
	if back {
		for k, z := range row {
			row[k] = complex(real(z)/float64(n), imag(z)/float64(n))
		}
	}
	return row
}

// bound tells how far the parts of swung may be off. With u for 2^-53 and s for the
// sum of all parts without signs, that is 8 u (n - 1) s, at most, and some of the
// least floats: nothing of one number, which stays as it is. Of two halves of a row,
// which are so (no part of them is above their s), the second one is turned: that
// makes what it is off by no more than 1.42 times as much; what the root is rounded by,
// both products and their sum bring 3.6 u of its s; and adding both halves u of both.
// All that is less than (8 u (n/2 - 1) 2 + 8 u) s, which is 8 u (n - 1) s. Where floats
// have fewer digits, each product is off by up to 2^-1075 more, which 2^-950 times u
// has room for.
func bound(l []complex128, back bool) float64 {
	sum, _ := exact.Two(-950)
	for _, z := range l {
		sum = sum.Add(nums.Just(math.Abs(real(z)))).Add(nums.Just(math.Abs(imag(z))))
	}
	n, parts := len(l), 1<<50
	if back {
		parts *= n
	}
	share, _ := exact.Over(n-1, parts)
	far, _ := sum.Mul(share).Float(api.Up)
	return far
}
