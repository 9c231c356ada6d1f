package exact

// whole is a whole number with a sign; 0 has none.
type whole struct {
	neg bool
	mag nat
}

// signed is mag, or its opposite.
func signed(neg bool, mag nat) whole { return whole{neg && len(mag) > 0, mag} }

// wholeOf is n.
func wholeOf(n int) whole {
	mag := uint64(n)
	if n < 0 {
		mag = -mag // of the least one, too, which has no opposite among ints
	}
	return signed(n < 0, word(mag))
}

func (a whole) sign() int {
	switch {
	case len(a.mag) == 0:
		return 0
	case a.neg:
		return -1
	}
	return 1
}

func (a whole) opposite() whole { return signed(!a.neg, a.mag.copied()) }

func (a whole) plus(b whole) whole {
	switch {
	case a.neg == b.neg:
		return signed(a.neg, a.mag.plus(b.mag))
	case a.mag.cmp(b.mag) < 0:
		return signed(b.neg, b.mag.minus(a.mag))
	}
	return signed(a.neg, a.mag.minus(b.mag))
}

func (a whole) minus(b whole) whole { return a.plus(whole{!b.neg, b.mag}) }

func (a whole) times(n nat) whole { return signed(a.neg, a.mag.times(n)) }
