package flow

import (
	"enclosure/api"
	"enclosure/ends"
	"enclosure/nums"
)

// rounds is how often a box is made greater, and then less, at most.
const rounds = 100

// growth is how fast each unknown grows in b.
func growth(f []api.Term, b box) box {
	l := make(box, len(b))
	for _, t := range f {
		v := alone(nums.Just(t.K))
		for i, n := range t.Pow {
			v = v.Mul(b[i].Pow(n))
		}
		l[t.Out] = l[t.Out].Add(v)
	}
	return l
}

// reached is where the way comes till its end, if all grows as it does somewhere in b.
func (w way) reached(b box) box {
	time := ends.Span{Hi: w.h}
	return both(w.y, growth(w.f, b), func(from, fast ends.Span) ends.Span {
		return from.Add(time.Mul(fast))
	})
}

// found is a box in which lies what is reached in it; nil, if none is found.
//
// It begins as y; from then on it is what was reached in the last one, with how far that
// lies beyond y rounded up to a few digits. In a greater box more is reached, so this
// never outgrows a box of that kind which will do: it comes to the least one, if that
// isn't too far. In systems of which ErrNone may not be told, one will do that reaches a
// half beyond y: there no unknown is farther than 2.5 from 0, so that each one grows by
// 2 terms of 2 times 2.5 times 2.5 at most, which is less than a half in 1/64; and what
// a box is greater by makes less than a third of that in the next one, so that few
// rounds are needed.
func (w way) found() box {
	b := w.y
	for range rounds {
		next := w.reached(b)
		if next.in(b) {
			return w.settled(b)
		}
		if next.far() {
			return nil
		}
		b = both(w.y, next, widened).loose()
	}
	return nil
}

// widened is from, and on both sides as much as to lies beyond it, or a bit more.
func widened(from, to ends.Span) ends.Span {
	return ends.Span{
		Lo: from.Lo.Sub(coarse(from.Lo.Sub(to.Lo))),
		Hi: from.Hi.Add(coarse(to.Hi.Sub(from.Hi))),
	}
}

// settled is what is left of b, a box that will do, if it is made less and less: what is
// reached in it will do, too, as that is a part of b, so that no more is reached there.
func (w way) settled(b box) box {
	for range rounds {
		next := w.reached(b).loose()
		if b.in(next) {
			return b
		}
		b = next
	}
	return b
}
