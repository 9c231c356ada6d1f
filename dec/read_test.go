package dec_test

import (
	"math"
	"math/big"
	"regexp"
	"strconv"
	"strings"
	"testing"

	"enclosure/api"
	"enclosure/dec"
)

func TestParse(t *testing.T) {
	for text, want := range map[string]float64{
		"0": 0, "-0": minus, "0.0": 0, "-0.00e5": minus, "0e99999999999999999999": 0, "-0e-99999999999999999999": minus,
		"1": 1, "-1.5": -1.5, "007": 7, "00.50": 0.5, "1e3": 1000, "1e03": 1000, "1e-0": 1, "12.5e-1": 1.25, "0.3e1": 3, "1000e-3": 1, "0.1": 0.1, "123456789": 123456789,
		"nan": math.NaN(), "inf": inf, "-inf": -inf,
		// Halves, to the even one of two, however far behind something follows.
		"9007199254740993": 1 << 53, "9007199254740993.0000": 1 << 53, "9007199254740993.0000000000000000001": 1<<53 + 2, "9007199254740992.9999999999999999999": 1 << 53, "9007199254740995": 1<<53 + 4, "-9007199254740993": -1 << 53,
		"90071992547409930000000000e-10": 1 << 53, "0.0000000009007199254740993e25": 1 << 53,
		"2.4703282292062327e-324": 0, "-2.4703282292062327e-324": minus, "2.4703282292062328e-324": least, "-2.4703282292062328e-324": -least, "5e-324": least, "7.4e-324": least, "7.5e-324": 2 * least,
		"2.2250738585072011e-308": 0x1p-1022 - least, "2.2250738585072012e-308": 0x1p-1022,
		"1.7976931348623157e308": math.MaxFloat64, "1.7976931348623158e308": math.MaxFloat64, "1.7976931348623159e308": inf, "-1.7976931348623159e308": -inf,
		"1e308": 1e308, "1e309": inf, "-1e309": -inf, "1e400": inf, "-1e400": -inf, "1e-400": 0, "-1e-400": minus, "1e-323": 2 * least, "1e-324": 0,
		// However far the point is.
		"1e2001": inf, "1e-2001": 0, "-1e5000": -inf, "-1e-5000": minus, "1e9223372036854775807": inf, "1e9223372036854775808": inf, "1e-9223372036854775808": 0, "1e18446744073709551617": inf, "1e-18446744073709551617": 0, "1e4294967297": inf,
	} {
		x, f := dec.Parse(text)
		reads(t, text, x, f, want, api.Fault{})
	}
}

var (
	writtenTens   = regexp.MustCompile(`^-?[0-9]+(\.[0-9]+)?(e-?[0-9]+)?$`)
	beginningTens = regexp.MustCompile(`^-?([0-9]+(\.[0-9]*|(\.[0-9]+)?e-?[0-9]*)?)?$`)
)

// parses holds Parse against the chapter's words, one after the other.
func parses(t *testing.T, text string) {
	t.Helper()
	x, f := dec.Parse(text)
	want, fault := 0.0, api.Fault{}
	switch {
	case len(text) > api.MaxText:
		fault.Code = api.ErrMany
	case text == "nan" || text == "inf" || text == "-inf" || writtenTens.MatchString(text):
		want, _ = strconv.ParseFloat(text, 64)
	default:
		fault = api.Fault{Code: api.ErrText, At: longest(text, beginningTens)}
	}
	reads(t, text, x, f, want, fault)
}

func TestParseOfAllShortTexts(t *testing.T) {
	for _, text := range texts("-0.5e1x", 6) {
		parses(t, text)
	}
	for _, text := range texts("-naif1", 5) {
		parses(t, text)
	}
}

func TestParseOfTextsNearby(t *testing.T) {
	for _, text := range []string{"0", "-0", "1.5", "-12.25e-10", "1e400", "0.001e5", "nan", "inf", "-inf", "9007199254740993.5e1", "2.4703282292062327e-324", "1.7976931348623158e308"} {
		for _, s := range near(text, "-09.eE+x n\x00\xff") {
			parses(t, s)
		}
	}
}

func TestParseOfOtherTexts(t *testing.T) {
	for _, text := range append(long(),
		"", "-", "+1", " 1", "1 ", "1.", ".5", "-.5", "1..5", "1.5.2", "1.e5", "1e", "1e-", "1e--1", "1e+1", "1E5", "1e1.5", "1e5e5", "1_0", "1,5", "0x10", "0x1p0", "1f", "--1", "-e5", "e5", "1.5x", "1.x", "1e5x", "1\n", "\x00", "1\x00", "\xff",
		"-nan", "NaN", "NAN", "+inf", "Inf", "infinity", "-infinity", "na", "nanx", "in", "-in", "-i", "-infx", "inf ", " nan", "１", "−1", "٣", "1·5", "½", "∞",
	) {
		parses(t, text)
	}
}

func TestParseOfLongTexts(t *testing.T) {
	nines, noughts := strings.Repeat("9", api.MaxText), strings.Repeat("0", api.MaxText)
	for _, text := range []string{
		nines, noughts, "-" + noughts[1:], "-" + nines[1:], "1" + noughts[1:], noughts[1:] + "1", "0." + nines[2:], "0." + noughts[3:] + "1", "1." + noughts[3:] + "1",
		nines[:1994] + "e-1994", nines[:1994] + "e-2317", nines[:1994] + "e-2318", nines[:1994] + "e-2319", nines[:1994] + "e-1685", nines[:1994] + "e-1686", nines[:1994] + "e-1687", nines[:1994] + "e-9999",
		"0." + noughts[:1990] + "1e1991", "0." + noughts[:1990] + "1e2299", "0." + noughts[:1990] + "1e2300", "0." + noughts[:1990] + "1e1668", "0." + noughts[:1990] + "1e1667", "0." + noughts[:1990] + "1e9999", "0." + noughts[:1992] + "5e99",
		"1" + noughts[:1990] + "e-1990", "1" + noughts[:1990] + "e-1682", "1" + noughts[:1990] + "e-1681", "1" + noughts[:1990] + "e-2313", "1" + noughts[:1990] + "e-2314", noughts[:1990] + "1e-5",
		"1e" + nines[2:], "1e-" + nines[3:], "1e" + noughts[3:] + "5", "1e-" + noughts[4:] + "5", "0e" + nines[2:], "-0e-" + nines[4:], "0." + noughts[:900] + "1e" + nines[:1000], nines[:1000] + "e-" + nines[:900],
		"1.00000000000000011102230246251565404236316680908203125" + noughts[:1900] + "1", "1.00000000000000011102230246251565404236316680908203125" + noughts[:1900],
	} {
		parses(t, text)
	}
}

// TestParseAroundHalves: the middle between two floats is read as the even one, and what is a little more or less as the one on its side.
func TestParseAroundHalves(t *testing.T) {
	for i, x := range samples() {
		x = math.Abs(x)
		if !(x < math.MaxFloat64) || i%20 > 0 && i > 500 {
			continue
		}
		y := math.Nextafter(x, inf)
		half := new(big.Rat).Add(rat(x), rat(y))
		text := half.Mul(half, big.NewRat(1, 2)).FloatString(1075)
		even := x
		if math.Float64bits(x)%2 == 1 {
			even = y
		}
		digits := strings.TrimSuffix(strings.TrimRight(text, "0"), ".")
		point := strings.IndexByte(text, '.')
		for s, want := range map[string]float64{
			text: even, digits: even, text + "1": y, text + strings.Repeat("0", 500) + "1": y, "00" + text + "e0": even,
			text[:point] + text[point+1:] + "e-1075": even, text[:point] + text[point+1:] + "1e-1076": y,
			lower(text): x, lower(text) + strings.Repeat("9", 500): x,
		} {
			got, f := dec.Parse(s)
			reads(t, s, got, f, want, api.Fault{})
			got, f = dec.Parse("-" + s)
			reads(t, "-"+s, got, f, -want, api.Fault{})
		}
	}
}

// lower is text, of what isn't 0, less one at its last digit.
func lower(text string) string {
	b := []byte(text)
	i := len(b) - 1
	for ; b[i] == '0' || b[i] == '.'; i-- {
		if b[i] == '0' {
			b[i] = '9'
		}
	}
	b[i]--
	return string(b)
}

func TestParseIsTheLibrarys(t *testing.T) {
	next := stream()
	for range 30000 {
		w := next()
		text := strconv.FormatUint(next()>>(w%64), 10)
		switch w >> 8 % 4 {
		case 0:
			text += "." + strconv.FormatUint(next(), 10)
		case 1:
			text = "0." + strings.Repeat("0", int(w>>12%20)) + text
		case 2:
			text += strconv.FormatUint(next(), 10) + strconv.FormatUint(next(), 10)
		}
		if w>>20%4 > 0 {
			text += "e" + strconv.Itoa(int(w>>24%700)-350)
		}
		if w>>40%2 == 0 {
			text = "-" + text
		}
		parses(t, text)
	}
}
