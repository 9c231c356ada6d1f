package exact

import (
	"math"
	mathbits "math/bits"
)

// over is a / b, where b divides a.
func (a nat) over(b nat) nat {
	if n := b.twos(); n+1 == b.size() {
		return a.right(n)
	}
	q, _ := a.divide(b)
	return q
}

// divide tells how often b, which isn't 0, goes into a, and what is left.
func (a nat) divide(b nat) (q, rest nat) {
	if a.cmp(b) < 0 {
		return nil, a.copied()
	}
	if len(b) == 1 {
		q, r := a.divideWord(b[0])
		return q, word(r)
	}
	// Both are shifted until b has its highest bit, so that the first words
	// alone tell each digit nearly right.
	s := mathbits.LeadingZeros64(b[len(b)-1])
	v := b.left(s)
	u := make(nat, len(a)+1)
	copy(u, a.left(s))
	q = make(nat, len(a)-len(b)+1)
	for i := len(q) - 1; i >= 0; i-- {
		q[i] = digit(u[i:i+len(v)+1], v)
	}
	return trim(q), trim(u[:len(v)]).right(s)
}

// digit tells how often v, which has its highest bit, goes into u, and takes
// that away from u, in place. It is less than a word, as u has one word more
// than v, and its upper ones are less than v.
func digit(u, v nat) uint64 {
	n := len(v)
	guess := uint64(math.MaxUint64)
	if u[n] < v[n-1] {
		guess, _ = mathbits.Div64(u[n], u[n-1], v[n-1])
	}
	// The guess is never too small, and at most by 2 too great (Knuth, 4.3.1).
	for spilt := shrink(u, v, guess); spilt; guess-- {
		spilt = !grow(u, v)
	}
	return guess
}

// divideWord is divide by one word.
func (a nat) divideWord(w uint64) (q nat, rest uint64) {
	q = make(nat, len(a))
	for i := len(a) - 1; i >= 0; i-- {
		q[i], rest = mathbits.Div64(rest, a[i], w)
	}
	return trim(q), rest
}

// root is the greatest number whose square isn't above a.
func (a nat) root() nat {
	if len(a) == 0 {
		return nil
	}
	// From above the root on, Newton's steps fall until they are there.
	s := nat{1}.left((a.size() + 1) / 2)
	for {
		q, _ := a.divide(s)
		next := s.plus(q).right(1)
		if next.cmp(s) >= 0 {
			return s
		}
		s = next
	}
}
