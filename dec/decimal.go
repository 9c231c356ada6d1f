package dec

import (
	"slices"
	"strconv"
)

// So many digits go into a word of a decimal, and this is the power of ten behind them.
const (
	wordDigits = 9
	wordTens   = 1e9
)

// How many words a decimal has: what is below 2^1024 has at most 309 digits ahead
// of the point, and the middle between 0 and the least float 1075 behind it.
const (
	wordsAhead  = 35
	wordsBehind = 120
)

// The place of the point among the digits of a decimal, and how many these are.
const (
	point  = wordDigits * wordsAhead
	places = wordDigits * (wordsAhead + wordsBehind)
)

// decimal is a number not below 0, exactly: a row of digits that is wide enough for
// each finite float, and for the middle between two neighbours. It is a value: what
// is made of one leaves it as it was.
type decimal [wordsAhead + wordsBehind]uint32

// made is m, which has at most 18 digits, times 2 to the power of e.
func made(m uint64, e int) decimal {
	var d decimal
	d[wordsAhead-2], d[wordsAhead-1] = uint32(m/wordTens), uint32(m%wordTens)
	for ; e > 0; e -= min(e, 32) {
		d = d.doubled(min(e, 32))
	}
	for ; e < 0; e += min(-e, 32) {
		d = d.halved(min(-e, 32))
	}
	return d
}

// doubled is d, doubled n times; n is at most 32, so that a word has room.
func (d decimal) doubled(n int) decimal {
	var carry uint64
	for i := len(d) - 1; i >= 0; i-- {
		w := uint64(d[i])<<n + carry
		d[i], carry = uint32(w%wordTens), w/wordTens
	}
	return d
}

// halved is d, halved n times; n is at most 32, likewise.
func (d decimal) halved(n int) decimal {
	var rest uint64
	for i := range d {
		w := rest*wordTens + uint64(d[i])
		d[i], rest = uint32(w>>n), w&(1<<n-1)
	}
	return d
}

// cmp is the sign of d - c.
func (d decimal) cmp(c decimal) int { return slices.Compare(d[:], c[:]) }

// noughts is how many noughts d, which isn't 0, begins with.
func (d decimal) noughts() int {
	i := 0
	for d[i] == 0 {
		i++
	}
	return wordDigits*(i+1) - len(strconv.Itoa(int(d[i])))
}

// digits is all digits of d.
func (d decimal) digits() string {
	text := make([]byte, 0, places)
	for _, w := range d {
		text = append(text, strconv.Itoa(wordTens + int(w))[1:]...) // the 1 ahead keeps noughts
	}
	return string(text)
}

// spot is in which word the digit of the number p stands (of the first one it is 1),
// and what one more at it is there.
func spot(p int) (i int, one uint32) {
	i = (p - 1) / wordDigits
	one = 1
	for range wordDigits*(i+1) - p {
		one *= 10
	}
	return i, one
}

// cut is the first p digits of d, one or more, and noughts behind them.
func (d decimal) cut(p int) decimal {
	i, one := spot(p)
	d[i] -= d[i] % one
	clear(d[i+1:])
	return d
}

// plus is d with n more, at most 9, at the digit of the number p.
func (d decimal) plus(n uint32, p int) decimal {
	i, one := spot(p)
	d[i] += n * one
	for d[i] >= wordTens {
		d[i] -= wordTens
		i--
		d[i]++
	}
	return d
}

// odd tells whether the digit of the number p is.
func (d decimal) odd(p int) bool {
	i, one := spot(p)
	return d[i]/one%2 == 1
}

// neighbours is the two decimals of p digits, fewer than all, between which d lies
// (it may be the lower one itself): the nearer one first; of two as near the one
// whose last digit is even.
func (d decimal) neighbours(p int) [2]decimal {
	below := d.cut(p)
	above := below.plus(1, p)
	side := d.cmp(below.plus(5, p+1))
	if side > 0 || side == 0 && below.odd(p) {
		return [2]decimal{above, below}
	}
	return [2]decimal{below, above}
}
