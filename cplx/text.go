package cplx

import (
	"strings"

	"enclosure/api"
	"enclosure/dec"
)

// Text is a, each part as the shortest decimal.
func Text(a complex128) string {
	switch Kind(a) {
	case api.NaN:
		return "nan"
	case api.Inf:
		return "inf"
	}
	y := dec.Short(imag(a))
	if !strings.HasPrefix(y, "-") {
		y = "+" + y
	}
	return dec.Short(real(a)) + y + "i"
}

// Parse is the number of which Text is text.
func Parse(text string) (complex128, api.Errno) {
	if len(text) > api.MaxText {
		return 0, api.ErrMany
	}
	a := read(text)
	if Text(a) != text {
		return 0, api.ErrText
	}
	return a, api.OK
}

// read is the only number that Text may write so; any one, if it writes none so.
func read(text string) complex128 {
	switch text {
	case "nan":
		return none()
	case "inf":
		return infinite()
	}
	// The real part ends where a decimal can't go on.
	_, fault := dec.Parse(text)
	x, _ := dec.Parse(text[:fault.At])
	y, _ := dec.Parse(strings.TrimPrefix(strings.TrimSuffix(text[fault.At:], "i"), "+"))
	return complex(x, y)
}
