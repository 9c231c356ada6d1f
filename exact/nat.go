package exact

import (
	"cmp"
	mathbits "math/bits"
	"slices"
)

// nat is a number not below 0, in words of 64 bits, the lowest one first, and
// the last one never 0. No word of it is ever changed once it is made.
type nat []uint64

// word is the number w.
func word(w uint64) nat { return trim(nat{w}) }

// trim leaves out words at the end that are 0.
func trim(a nat) nat {
	n := len(a)
	for n > 0 && a[n-1] == 0 {
		n--
	}
	if n == 0 {
		return nil
	}
	return a[:n]
}

func (a nat) copied() nat { return slices.Clone(a) }

func (a nat) one() bool { return len(a) == 1 && a[0] == 1 }

// cmp is the sign of a - b.
func (a nat) cmp(b nat) int {
	if len(a) != len(b) {
		return cmp.Compare(len(a), len(b))
	}
	for i := len(a) - 1; i >= 0; i-- {
		if a[i] != b[i] {
			return cmp.Compare(a[i], b[i])
		}
	}
	return 0
}

// size is how many digits in twos a has.
func (a nat) size() int {
	if len(a) == 0 {
		return 0
	}
	return 64*(len(a)-1) + mathbits.Len64(a[len(a)-1])
}

// twos is how often a, which isn't 0, can be divided by 2.
func (a nat) twos() int {
	i := 0
	for a[i] == 0 {
		i++
	}
	return 64*i + mathbits.TrailingZeros64(a[i])
}

// window is the 64 digits in twos of a from the place n on; noughts where a has none.
func (a nat) window(n int) uint64 {
	i, s := n/64, n%64
	var w uint64
	if i < len(a) {
		w = a[i] >> s
	}
	if i+1 < len(a) {
		w |= a[i+1] << (64 - s)
	}
	return w
}

// left is a times 2 to the power of n.
func (a nat) left(n int) nat {
	if n == 0 {
		return a
	}
	i, s := n/64, n%64
	z := make(nat, len(a)+i+1)
	for k, w := range a {
		z[k+i] |= w << s
		z[k+i+1] = w >> (64 - s)
	}
	return trim(z)
}

// right is a over 2 to the power of n, without what is behind the point.
func (a nat) right(n int) nat {
	if n == 0 {
		return a
	}
	z := make(nat, max(len(a)-n/64, 0))
	for k := range z {
		z[k] = a.window(n + 64*k)
	}
	return trim(z)
}

func (a nat) plus(b nat) nat {
	if len(a) < len(b) {
		a, b = b, a
	}
	z := make(nat, len(a)+1)
	copy(z, a)
	grow(z, b)
	return trim(z)
}

// minus is a - b, of a b that isn't above a.
func (a nat) minus(b nat) nat {
	z := a.copied()
	shrink(z, b, 1)
	return trim(z)
}

func (a nat) times(b nat) nat {
	z := make(nat, len(a)+len(b))
	for i, w := range b {
		if w > 0 { // which it seldom is in powers of two
			z[i+len(a)] = gather(z[i:i+len(a)], a, w)
		}
	}
	return trim(z)
}

// grow adds b, which isn't longer than z, to z, in place, and tells whether
// there was no room for all of it.
func grow(z, b nat) (spilt bool) {
	var carry uint64
	for i := range z {
		var w uint64
		if i < len(b) {
			w = b[i]
		}
		z[i], carry = mathbits.Add64(z[i], w, carry)
	}
	return carry == 1
}

// shrink takes b w, of a b that isn't longer than z, away from z, in place, and
// tells whether that was more than z.
func shrink(z, b nat, w uint64) (spilt bool) {
	var carry, borrow uint64
	for i := range z {
		away := carry
		carry = 0
		if i < len(b) {
			high, low := mathbits.Mul64(b[i], w)
			away, carry = mathbits.Add64(low, away, 0)
			carry += high
		}
		z[i], borrow = mathbits.Sub64(z[i], away, borrow)
	}
	return carry+borrow > 0
}

// gather adds b w to z, which is as long as b, in place, and tells the word
// that is carried.
func gather(z, b nat, w uint64) uint64 {
	var carry uint64
	for i, d := range b {
		high, low := mathbits.Mul64(d, w)
		var c uint64
		low, c = mathbits.Add64(low, carry, 0)
		high += c
		z[i], c = mathbits.Add64(z[i], low, 0)
		carry = high + c
	}
	return carry
}

// power is b to the power of n.
func power(b uint64, n int) nat {
	z := nat{1}
	for i := mathbits.Len(uint(n)) - 1; i >= 0; i-- {
		z = z.times(z)
		if n>>i&1 == 1 {
			z = z.times(word(b))
		}
	}
	return z
}
