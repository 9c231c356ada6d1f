package exact

// common is the greatest number that divides a and b; the other one, if one is 0.
func common(a, b nat) nat {
	if len(a) == 0 {
		return b
	}
	if len(b) == 0 {
		return a
	}
	// Twos go ahead, as below the bar of what comes of floats there is nothing else.
	i, j := a.twos(), b.twos()
	if i+1 == a.size() || j+1 == b.size() {
		return nat{1}.left(min(i, j))
	}
	return euclid(a.right(i), b.right(j)).left(min(i, j))
}

// euclid is common of two numbers that aren't 0.
func euclid(a, b nat) nat {
	if a.cmp(b) < 0 {
		a, b = b, a
	}
	for len(b) > 1 {
		a, b = nearer(a, b)
	}
	if len(b) == 0 {
		return a
	}
	x := b[0]
	_, y := a.divideWord(x)
	for y > 0 {
		x, y = y, x%y
	}
	return nat{x}
}

// nearer is two numbers farther on in the row of rests that begins with a and b.
func nearer(a, b nat) (nat, nat) {
	x, y, turned := shares(a, b)
	if x.b == 0 {
		_, rest := a.divide(b)
		return b, rest
	}
	return x.mix(a, b, turned), y.mix(a, b, !turned)
}

// share tells how a rest is mixed of the two numbers that its row begins with.
type share struct{ a, b uint64 }

// mix is what comes of the share: the part of b less that of a, if turned, else
// the other way round.
func (s share) mix(a, b nat, turned bool) nat {
	x, y := a.times(word(s.a)), b.times(word(s.b))
	if turned {
		return y.minus(x)
	}
	return x.minus(y)
}

// shares goes along the row of rests as far as the first words of a and b (a is the
// greater one) show surely what its quotients are: many steps for the cost of one
// (Lehmer's way, until Collins' condition fails). It tells the shares of the last
// two that are sure, the first of them turned or not; no b in it, if none is.
func shares(a, b nat) (share, share, bool) {
	n := a.size() - 64
	x, y := a.window(n), b.window(n)
	last, sure, next := share{}, share{1, 0}, share{0, 1}
	turned := true
	// The sum x next.b + y sure.b stays what x was at first; so nothing here is
	// more than a word.
	for y >= next.b && x-y >= sure.b+next.b {
		q := x / y
		x, y = y, x%y
		last, sure, next = sure, next, share{sure.a + q*next.a, sure.b + q*next.b}
		turned = !turned
	}
	return last, sure, turned
}
