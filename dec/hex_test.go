package dec_test

import (
	"fmt"
	"math"
	"regexp"
	"strconv"
	"strings"
	"testing"

	"enclosure/api"
	"enclosure/dec"
)

func TestHex(t *testing.T) {
	for _, c := range []struct {
		x    float64
		want string
	}{
		{0, "0x0p0"}, {minus, "-0x0p0"}, {inf, "inf"}, {-inf, "-inf"}, {math.NaN(), "nan"}, {math.Float64frombits(1<<64 - 1), "nan"},
		{1, "0x1p0"}, {-2, "-0x1p1"}, {1.5, "0x1.8p0"}, {0.1, "0x1.999999999999ap-4"}, {-0.75, "-0x1.8p-1"}, {17, "0x1.1p4"}, {257, "0x1.01p8"}, {1024, "0x1p10"},
		{math.Nextafter(1, 2), "0x1.0000000000001p0"}, {math.MaxFloat64, "0x1.fffffffffffffp1023"}, {-math.MaxFloat64, "-0x1.fffffffffffffp1023"},
		{0x1p-1022, "0x1p-1022"}, {-0x1p-1022, "-0x1p-1022"}, {0x1p-1021, "0x1p-1021"}, {math.Nextafter(0x1p-1022, 1), "0x1.0000000000001p-1022"},
		{least, "0x0.0000000000001p-1022"}, {-least, "-0x0.0000000000001p-1022"}, {0x1p-1023, "0x0.8p-1022"}, {0x1p-1022 - least, "0x0.fffffffffffffp-1022"}, {0x1p-1070, "0x0.000000000001p-1022"},
	} {
		if got := dec.Hex(c.x); got != c.want {
			t.Errorf("Hex of %g: %s, want %s", c.x, got, c.want)
		}
		x, f := dec.ParseHex(c.want)
		reads(t, c.want, x, f, c.x, api.Fault{})
	}
}

// hexText is the chapter's words: x in sixteens, by its bits.
func hexText(x float64) string {
	if !finite(x) {
		return others(x)
	}
	b := math.Float64bits(x)
	exp, frac := int(b>>52&2047), b&(1<<52-1)
	lead, power := "0x1", exp-1023
	switch {
	case x == 0:
		lead, power = "0x0", 0
	case exp == 0:
		lead, power = "0x0", -1022
	}
	digits := ""
	if frac != 0 {
		digits = strings.TrimRight(fmt.Sprintf(".%013x", frac), "0")
	}
	return fmt.Sprint(sign(x), lead, digits, "p", power)
}

func TestHexThereAndBack(t *testing.T) {
	for _, x := range samples() {
		text := dec.Hex(x)
		if text != hexText(x) {
			t.Errorf("Hex of %x: %s, want %s", x, text, hexText(x))
		}
		y, f := dec.ParseHex(text)
		reads(t, text, y, f, x, api.Fault{})
		if z, err := strconv.ParseFloat(text, 64); !alike(z, x) || err != nil {
			t.Errorf("Hex of %x: %s, which the library reads as %x", x, text, z)
		}
	}
}

var (
	writtenHex   = regexp.MustCompile(`^-?0x[01](\.[0-9a-f]+)?p-?[0-9]+$`)
	beginningHex = regexp.MustCompile(`^-?(0(x([01](\.[0-9a-f]*|(\.[0-9a-f]+)?p-?[0-9]*)?)?)?)?$`)
)

// longest is how long the longest beginning of text is that is one of what is written so.
func longest(text string, beginning *regexp.Regexp) int {
	n := len(text)
	for !beginning.MatchString(text[:n]) {
		n--
	}
	return n
}

// parsesHex holds ParseHex against the chapter's words, one after the other.
func parsesHex(t *testing.T, text string) {
	t.Helper()
	x, f := dec.ParseHex(text)
	want, fault := 0.0, api.Fault{}
	switch {
	case len(text) > api.MaxText:
		fault.Code = api.ErrMany
	case text == "nan" || text == "inf" || text == "-inf":
		want, _ = strconv.ParseFloat(text, 64)
	case !writtenHex.MatchString(text):
		fault = api.Fault{Code: api.ErrText, At: longest(text, beginningHex)}
	default:
		y, _ := strconv.ParseFloat(text, 64)
		if hexText(y) == text {
			want = y
		} else {
			fault.Code = api.ErrForm
		}
	}
	reads(t, text, x, f, want, fault)
}

func TestParseHexOfAllShortTexts(t *testing.T) {
	for _, text := range texts("-01xp.a", 6) {
		parsesHex(t, text)
	}
	for _, text := range texts("-017.pf", 5) {
		parsesHex(t, "0x"+text)
		parsesHex(t, "-0x1."+text)
		parsesHex(t, "0x1p"+text)
		parsesHex(t, "0x0.8p-10"+text)
	}
	for _, text := range texts("-naif", 5) {
		parsesHex(t, text)
	}
}

func TestParseHexOfTextsNearby(t *testing.T) {
	for _, text := range []string{
		"0x0p0", "-0x0p0", "0x1p0", "0x1.8p0", "-0x1.999999999999ap-4", "0x1.0000000000001p0", "0x1.fffffffffffffp1023", "0x1p1023", "0x1p-1022", "0x1.1p-1022",
		"0x0.0000000000001p-1022", "0x0.8p-1022", "-0x0.fffffffffffffp-1022", "nan", "inf", "-inf", "0x1.abcdefp-1001", "0x1p19",
	} {
		for _, s := range near(text, "-0x1.9afgpAXP+ n\x00\xff") {
			parsesHex(t, s)
		}
	}
}

func TestParseHexOfOtherTexts(t *testing.T) {
	for _, text := range append(long(),
		"", "-", "--0x1p0", "+0x1p0", "0X1P0", "0x1P0", "0x1.Ap0", "0x2p0", "0xap0", "0x10p0", "0x.8p0", "0x1.p0", "0x1,8p0", "0x1.8", "0x1", "1", "1.5", "0x1p", "0x1p-", "0x1p--1", "0x1p+1", "0x1p1.5", "0x1p0x",
		"0x1.80p0", "0x1.0p0", "0x1p00", "0x1p-0", "0x1p01", "0x1p-01", "0x0p1", "0x0p-1", "0x0p-1022", "0x0.0p0", "0x0.8p0", "0x0.8p-1023", "0x0.8p-1021", "0x0.80p-1022", "0x0.0000000000000p-1022", "0x1.8p-1023",
		"0x1p1024", "0x1p-1023", "0x1p2000", "0x1p-2000", "-0x1p1024", "0x1.8p1024", "0x1.00000000000001p0", "0x1.00000000000000p0", "0x0.00000000000001p-1022", "0x1.fffffffffffff8p0", "0x0.10000000000000p-1022",
		"0x1p99999999999999999999", "0x1p-99999999999999999999", "0x1p18446744073709551616", "0x1p-18446744073709551616", "0x0p18446744073709551616", "0x1p4294967296",
		"-nan", "NaN", "+inf", "Inf", "infinity", "inf ", " inf", "nan1", "-infx", "--inf", "0x１p0", "−0x1p0", "0x1.8p0\n", "\x00", "\xff\xfe",
		"0x1."+strings.Repeat("0", 1990)+"p0", "0x1."+strings.Repeat("a", 1993)+"p0", "0x1p"+strings.Repeat("0", 1995)+"1", "0x1p-"+strings.Repeat("9", 1995), "0x1p"+strings.Repeat("9", 1997),
	) {
		parsesHex(t, text)
	}
}
