package wave

// Two primes, each of them 1 more than what many powers of two go into, so that they
// have roots for all rows; and a number whose powers are all rests of both but 0.
const (
	first     = 998244353
	second    = 469762049
	generator = 3
)

// undone is the inverse of first modulo second.
var undone = inverse(first, second)

// modulo is how rests of the prime p are reckoned with; of those no product is too
// great for an int.
func modulo(p int) reckoning[int] {
	return reckoning[int]{
		add: func(a, b int) int { return (a + b) % p },
		sub: func(a, b int) int { return (a - b + p) % p },
		mul: func(a, b int) int { return a * b % p },
	}
}

// power is a to the power of e, modulo p.
func power(a, e, p int) int {
	a %= p
	v := 1
	for ; e > 0; e /= 2 {
		if e%2 == 1 {
			v = v * a % p
		}
		a = a * a % p
	}
	return v
}

// inverse is 1 / a modulo the prime p (by Fermat's theorem).
func inverse(a, p int) int { return power(a, p-2, p) }

// turned is the transform of l, which are rests of p, or the way back.
func turned(l []int, p int, back bool) []int {
	n := len(l)
	root := power(generator, (p-1)/n, p)
	if back {
		root = inverse(root, p)
	}
	roots := make([]int, n)
	for k := range roots {
		roots[k] = power(root, k, p)
	}
	row := through(l, roots, modulo(p))
	if back {
		share := inverse(n, p)
		for k := range row {
			row[k] = row[k] * share % p
		}
	}
	return row
}

// folded is, at the place k, the sum of all a[i] b[j] with i + j = k. Both have
// entries, no more than half of api.MaxWave.
func folded(a, b []int) []int {
	l := make([]int, len(a)+len(b)-1)
	x, y := foldedRests(a, b, len(l), first), foldedRests(a, b, len(l), second)
	for k := range l {
		l[k] = joined(x[k], y[k])
	}
	return l
}

// foldedRests is the first n of what a and b come to when folded, modulo p.
func foldedRests(a, b []int, n, p int) []int {
	room := 1
	for room < n {
		room *= 2 // so that nothing comes round to the beginning
	}
	x, y := turned(rests(a, room, p), p, false), turned(rests(b, room, p), p, false)
	for k := range x {
		x[k] = x[k] * y[k] % p
	}
	return turned(x, p, true)[:n]
}

// rests is l modulo p, and noughts behind it, n in all.
func rests(l []int, n, p int) []int {
	row := make([]int, n)
	for i, x := range l {
		row[i] = rest(x, p)
	}
	return row
}

// rest is x modulo p, of what is below 0, too.
func rest(x, p int) int { return (x%p + p) % p }

// joined is the number nearest to 0 that has the rest x of first and y of second. No
// sum that Convolve tells is so great as half of what both primes are multiplied, so
// that it is this one.
func joined(x, y int) int {
	v := x + first*(rest(y-x, second)*undone%second)
	if v > first*second/2 {
		v -= first * second
	}
	return v
}
