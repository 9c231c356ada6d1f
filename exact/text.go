package exact

import (
	"strconv"
	"strings"

	"enclosure/api"
)

// So many digits in tens go into a word, and this is the power of ten behind them.
const (
	wordDigits = 19
	wordTens   = 1e19
)

// Text is x in decimal.
func (x Num) Text() string {
	text := x.top.mag.text()
	if x.top.neg {
		text = "-" + text
	}
	if len(x.low) > 0 {
		text += "/" + x.low.text()
	}
	return text
}

// Parse is the fraction of which Text is text.
func Parse(text string) (Num, api.Fault) {
	if len(text) > api.MaxText {
		return Num{}, api.Fault{Code: api.ErrMany}
	}
	begin := len(text) - len(strings.TrimPrefix(text, "-"))
	end := pastDigits(text, begin)
	top, low := text[begin:end], "1"
	at := end // where what is below the bar begins, if there is a bar
	if end > begin && end < len(text) && text[end] == '/' {
		at = end + 1
		end = pastDigits(text, at)
		low = text[at:end]
	}
	if top == "" || low == "" || end < len(text) {
		return Num{}, api.Fault{Code: api.ErrText, At: end}
	}
	x, err := fraction(signed(begin > 0, natOf(top)), nat{1}).Quo(fraction(signed(false, natOf(low)), nat{1}))
	if err != api.OK {
		return Num{}, api.Fault{Code: err, At: at}
	}
	if x.Text() != text {
		return Num{}, api.Fault{Code: api.ErrForm}
	}
	return x, api.Fault{}
}

// pastDigits is the place behind the digits that stand from the place i on.
func pastDigits(text string, i int) int {
	for i < len(text) && text[i] >= '0' && text[i] <= '9' {
		i++
	}
	return i
}

// natOf is the number that digits tell.
func natOf(digits string) nat {
	var a nat
	for len(digits) > 0 {
		n := (len(digits)-1)%wordDigits + 1
		w, _ := strconv.ParseUint(digits[:n], 10, 64)
		a = a.times(nat{wordTens}).plus(word(w))
		digits = digits[n:]
	}
	return a
}

// text is a in decimal.
func (a nat) text() string {
	if len(a) == 0 {
		return "0"
	}
	var parts []string
	for len(a) > 0 {
		var w uint64
		a, w = a.divideWord(wordTens)
		parts = append(parts, strconv.FormatUint(w, 10))
	}
	var text strings.Builder
	text.WriteString(parts[len(parts)-1])
	for i := len(parts) - 2; i >= 0; i-- {
		text.WriteString(strings.Repeat("0", wordDigits-len(parts[i])))
		text.WriteString(parts[i])
	}
	return text.String()
}
