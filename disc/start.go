package disc

import (
	"math"
	"slices"
)

// starts is numbers about as far from 0 as the roots of a polynomial, of which 0 is none:
// over the numbers of the polynomial, drawn by their sizes, a cord is laid (Newton's
// polygon); each straight piece of it tells by how it falls how far from 0 so many roots
// lie as it is long.
func starts(p []complex128) []complex128 {
	var l []complex128
	for from := 0; from < len(p)-1; {
		to, fall := piece(p, from)
		l = ring(l, to-from, fall)
		from = to
	}
	return l
}

// piece is where the piece of the cord ends that begins at from, and how it falls.
func piece(p []complex128, from int) (to int, fall float64) {
	fall = math.Inf(1)
	for k := from + 1; k < len(p); k++ {
		if f := (size(p[from]) - size(p[k])) / float64(k-from); f <= fall {
			to, fall = k, f
		}
	}
	return to, fall
}

// ring is l and n numbers that stand evenly around 0, so far from it (in powers of two),
// as far as floats go.
func ring(l []complex128, n int, far float64) []complex128 {
	// The least ones are still so far from 0 that they can stand around it.
	r := math.Exp2(max(-1070, min(far, 1023)))
	for k := range n {
		// No two stand mirrored, as those of real polynomials would stay so.
		turn := 0.7 + 2*math.Pi*float64(k)/float64(n)
		z := around(r, turn)
		for slices.Contains(l, z) {
			turn += 0.1
			z = around(r, turn)
		}
		l = append(l, z)
	}
	return l
}

// around is what lies r from 0, so far turned.
func around(r, turn float64) complex128 {
	y, x := math.Sincos(turn)
	return complex(r*x, r*y)
}

// aboutZero is n numbers about 0 beside those of l, 0 ahead.
func aboutZero(l []complex128, n int) []complex128 {
	var more []complex128
	for x := 0.0; len(more) < n; x += math.SmallestNonzeroFloat64 {
		if z := complex(x, 0); !slices.Contains(l, z) {
			more = append(more, z)
		}
	}
	return more
}
