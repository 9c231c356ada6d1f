package dec

import (
	"math"
	"strings"

	"enclosure/api"
	"enclosure/exact"
)

// Powers of ten are told up to farthest alone: with them, a text that is short enough
// comes to what is infinite, or to 0, wherever its point stands; and from farOff on
// so does a number whose digits begin right behind the point.
const (
	farthest = 2 * api.MaxText
	farOff   = 400
)

// Parse is the decimal that text tells, rounded.
func Parse(text string) (float64, api.Fault) { return read(text, tens) }

// read reads what isn't finite, and else what finite reads.
func read(text string, finite func(*reader) (float64, api.Errno)) (float64, api.Fault) {
	if len(text) > api.MaxText {
		return 0, api.Fault{Code: api.ErrMany}
	}
	for _, x := range [...]float64{math.NaN(), math.Inf(1), math.Inf(-1)} {
		if text == unending(x) {
			return x, api.Fault{}
		}
	}
	r := reader{text: text}
	x, err := finite(&r)
	switch err {
	case api.OK:
		return x, api.Fault{}
	case api.ErrText:
		return 0, api.Fault{Code: err, At: r.at}
	}
	return 0, api.Fault{Code: err}
}

// tens reads a decimal.
func tens(r *reader) (float64, api.Errno) {
	neg := r.may('-')
	whole := r.run("0123456789")
	behind := ""
	if r.may('.') {
		behind = r.run("0123456789")
	}
	power := 0
	if r.may('e') {
		power = r.power()
	}
	if !r.done() {
		return 0, api.ErrText
	}
	x := rounded(whole, behind, power)
	if neg {
		x = -x // behind the rounding, as 0 keeps its sign, too
	}
	return x, api.OK
}

// rounded is whole, a point and behind, times 10 to the power of power, rounded.
func rounded(whole, behind string, power int) float64 {
	digits := strings.TrimLeft(whole+behind, "0")
	order := len(digits) - len(behind) + power // of digits that begin behind the point
	digits = strings.TrimRight(digits, "0")
	if digits == "" {
		return 0
	}
	// Neither of these can go wrong: a text is no longer than the powers of ten
	// reach, and its digits don't begin with a nought any more.
	n, _ := exact.Parse(digits)
	back, _ := exact.Ten(-len(digits))
	size, _ := exact.Ten(min(max(order, -farOff), farOff))
	x, _ := n.Mul(back.Mul(size)).Float(api.Near)
	return x
}

// reader goes along a text, up to where something stands that can't.
type reader struct {
	text string
	at   int  // what is ahead of it begins something that is written so
	bad  bool // what is at it, or the end there, doesn't
}

// may takes c, if it stands here.
func (r *reader) may(c byte) bool {
	if r.bad || r.at == len(r.text) || r.text[r.at] != c {
		return false
	}
	r.at++
	return true
}

// must takes c, and nothing else can stand here.
func (r *reader) must(c byte) {
	if !r.may(c) {
		r.bad = true
	}
}

// run takes as many of these digits as there are, one or more.
func (r *reader) run(digits string) string {
	from := r.at
	for !r.bad && r.at < len(r.text) && strings.IndexByte(digits, r.text[r.at]) >= 0 {
		r.at++
	}
	if r.at == from {
		r.bad = true
	}
	return r.text[from:r.at]
}

// power takes perhaps a minus, and digits: a whole number, which is farthest, or its
// opposite, if it is farther from 0.
func (r *reader) power() int {
	neg := r.may('-')
	n := 0
	for _, c := range []byte(r.run("0123456789")) {
		n = min(10*n+int(c-'0'), farthest)
	}
	if neg {
		return -n
	}
	return n
}

// done tells whether all of the text could stand so.
func (r *reader) done() bool {
	r.bad = r.bad || r.at < len(r.text)
	return !r.bad
}
