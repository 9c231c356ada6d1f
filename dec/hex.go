package dec

import (
	"strconv"
	"strings"

	"enclosure/api"
	"enclosure/bits"
)

// fractionDigits is how many digits in sixteens the fraction of a float has.
const fractionDigits = 13

// Hex is x in sixteens, with all its digits.
func Hex(x float64) string {
	if text := unending(x); text != "" {
		return text
	}
	if x == 0 {
		return minus(x) + "0x0p0"
	}
	_, exp, frac := bits.Split(x)
	text := minus(x) + "0x1"
	if exp == 0 {
		text = minus(x) + "0x0"
	}
	// The 1 ahead keeps the fraction's noughts.
	if digits := strings.TrimRight(strconv.FormatUint(1<<52|frac, 16)[1:], "0"); digits != "" {
		text += "." + digits
	}
	return text + "p" + strconv.Itoa(max(exp, 1)-1023)
}

// ParseHex is the float of which Hex is text.
func ParseHex(text string) (float64, api.Fault) { return read(text, sixteens) }

// sixteens reads what is finite and written as Hex does.
func sixteens(r *reader) (float64, api.Errno) {
	neg := r.may('-')
	r.must('0')
	r.must('x')
	leads := r.may('1')
	if !leads {
		r.must('0')
	}
	digits := ""
	if r.may('.') {
		digits = r.run("0123456789abcdef")
	}
	r.must('p')
	power := r.power()
	if !r.done() {
		return 0, api.ErrText
	}
	x, err := joined(neg, leads, digits, power)
	if err != api.OK || Hex(x) != r.text {
		return 0, api.ErrForm
	}
	return x, api.OK
}

// joined is the float of these parts; if some of them don't fit together, it may be
// another one, or ErrRange.
func joined(neg, leads bool, digits string, power int) (float64, api.Errno) {
	if len(digits) > fractionDigits {
		return 0, api.ErrRange
	}
	frac, _ := strconv.ParseUint("0"+digits, 16, 64)
	frac <<= 4 * (fractionDigits - len(digits))
	exp := 0
	if leads {
		exp = power + 1023
	}
	return bits.Join(neg, exp, frac)
}
