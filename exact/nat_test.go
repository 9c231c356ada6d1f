package exact

import (
	"math"
	"math/big"
	"slices"
	"testing"
)

// edge words, of which numbers are made that bring carries and guesses to their limits.
func edgeWords() []uint64 {
	return []uint64{0, 1, 2, 3, 1 << 32, 1<<32 - 1, 1 << 63, 1<<63 - 1, 1<<63 + 1, math.MaxUint64, math.MaxUint64 - 1}
}

// nats: all numbers of up to two edge words, and many of up to eight.
func nats() []nat {
	l := []nat{nil}
	for _, a := range edgeWords() {
		for _, b := range edgeWords() {
			l = append(l, trim(nat{a, b}))
		}
	}
	state := uint64(3)
	for i := range 250 {
		var a nat
		for range 3 + i%6 {
			state = state*6364136223846793005 + 1442695040888963407
			w := edgeWords()[state>>33%11]
			if state>>60 == 0 {
				w = state
			}
			a = append(a, w)
		}
		l = append(l, trim(a))
	}
	return l
}

func toBig(a nat) *big.Int {
	n := new(big.Int)
	for _, w := range slices.Backward(a) {
		n.Lsh(n, 64).Add(n, new(big.Int).SetUint64(w))
	}
	return n
}

func TestTwoNats(t *testing.T) {
	l := nats()
	for _, a := range l {
		for _, b := range l {
			x, y := toBig(a), toBig(b)
			holds(t, "sum", a.plus(b), new(big.Int).Add(x, y))
			holds(t, "product", a.times(b), new(big.Int).Mul(x, y))
			holds(t, "common", common(a, b), new(big.Int).GCD(nil, nil, x, y))
			if c := a.cmp(b); c != x.Cmp(y) {
				t.Errorf("cmp of %d, %d: %d", x, y, c)
			} else if c >= 0 {
				holds(t, "difference", a.minus(b), new(big.Int).Sub(x, y))
			}
			if len(b) > 0 {
				q, rest := a.divide(b)
				p, r := new(big.Int).QuoRem(x, y, new(big.Int))
				holds(t, "quotient", q, p)
				holds(t, "rest", rest, r)
			}
			holds(t, "left as it was", a, x)
			holds(t, "left as it was", b, y)
		}
	}
}

func TestOneNat(t *testing.T) {
	for _, a := range nats() {
		x := toBig(a)
		holds(t, "root", a.root(), new(big.Int).Sqrt(x))
		holds(t, "root", a.times(a).root(), x)
		if a.size() != x.BitLen() || a.text() != x.String() {
			t.Errorf("%d: %d, %s", x, a.size(), a.text())
		}
		holds(t, "text", natOf(a.text()), x)
		for _, n := range []int{0, 1, 63, 64, 65, 128, 200, 1000} {
			holds(t, "left", a.left(n), new(big.Int).Lsh(x, uint(n)))
			holds(t, "right", a.right(n), new(big.Int).Rsh(x, uint(n)))
		}
		if len(a) > 0 && a.twos() != int(x.TrailingZeroBits()) {
			t.Errorf("twos of %d: %d", x, a.twos())
		}
	}
}

func TestCommonOfLongRows(t *testing.T) {
	// Neighbours in Fibonacci's row have the longest row of rests that there is.
	a, b := nat{1}, nat{1}
	for range 3000 {
		a, b = b, a.plus(b)
	}
	holds(t, "neighbours", common(a, b), big.NewInt(1))
	c := power(7, 300).plus(nat{2})
	holds(t, "times the same", common(a.times(c), c.times(b)), toBig(c))
	holds(t, "itself", common(c, c), toBig(c))
	holds(t, "a part of it", common(c.times(a), c), toBig(c))
}

// holds fails unless a is n, and has no needless words.
func holds(t *testing.T, what string, a nat, n *big.Int) {
	t.Helper()
	if toBig(a).Cmp(n) != 0 || len(a) > 0 && a[len(a)-1] == 0 {
		t.Errorf("%s: %d, want %d", what, toBig(a), n)
	}
}
