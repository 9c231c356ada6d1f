package exact_test

import (
	"math/big"
	"regexp"
	"strings"
	"testing"

	"enclosure/api"
	"enclosure/exact"
)

func TestText(t *testing.T) {
	for _, c := range []struct {
		a, b int
		want string
	}{
		{0, 1, "0"}, {0, -7, "0"}, {1, 1, "1"}, {-1, 1, "-1"}, {6, 3, "2"}, {6, -4, "-3/2"}, {-6, -4, "3/2"}, {1, 1 << 62, "1/4611686018427387904"},
		{1e18, 1, "1000000000000000000"}, {1e18, 1e17 + 1, "1000000000000000000/100000000000000001"},
	} {
		x, _ := exact.Over(c.a, c.b)
		if got := x.Text(); got != c.want {
			t.Errorf("%d / %d: %s, want %s", c.a, c.b, got, c.want)
		}
	}
	for _, e := range []int{18, 19, 20, 37, 38, 39, 57, 58, 2000} { // noughts within and at the end of what is told word by word
		x, _ := exact.Ten(e)
		noughts := strings.Repeat("0", e-1)
		if got := x.Text(); got != "1"+noughts+"0" {
			t.Errorf("Ten(%d): %s", e, got)
		}
		if got := x.Add(exact.Int(7)).Text(); got != "1"+noughts+"7" {
			t.Errorf("Ten(%d) + 7: %s", e, got)
		}
		if got := x.Sub(exact.Int(1)).Text(); got != strings.Repeat("9", e) {
			t.Errorf("Ten(%d) - 1: %s", e, got)
		}
	}
}

func TestParseIsBackOfText(t *testing.T) {
	for _, a := range fractions() {
		text := ratText(a)
		x, g := exact.Parse(text)
		if len(text) > api.MaxText {
			zero(t, text, x)
			if g != (api.Fault{Code: api.ErrMany}) {
				t.Errorf("Parse of %d bytes: %v", len(text), g)
			}
			continue
		}
		if g != (api.Fault{}) || x.Text() != text || x.Cmp(num(t, a)) != 0 {
			t.Errorf("Parse(%s): %s, %v", text, x.Text(), g)
		}
	}
}

var (
	written   = regexp.MustCompile(`^-?[0-9]+(/[0-9]+)?$`)
	beginning = regexp.MustCompile(`^-?([0-9]+(/[0-9]*)?)?$`)
	byNought  = regexp.MustCompile(`^-?[0-9]+/(0+)$`)
)

// decimal is the number that digits tell, noughts ahead or not.
func decimal(digits string) *big.Int {
	n, _ := new(big.Int).SetString(digits, 10)
	return n
}

// fault is what the chapter says of a text, by its words one after the other.
func fault(text string) api.Fault {
	if len(text) > api.MaxText {
		return api.Fault{Code: api.ErrMany}
	}
	if !written.MatchString(text) {
		n := len(text)
		for !beginning.MatchString(text[:n]) {
			n--
		}
		return api.Fault{Code: api.ErrText, At: n}
	}
	if m := byNought.FindStringSubmatchIndex(text); m != nil {
		return api.Fault{Code: api.ErrZero, At: m[2]}
	}
	top, low, _ := strings.Cut(text+"/1", "/")
	r := new(big.Rat).SetFrac(decimal(top), decimal(strings.TrimSuffix(low, "/1")))
	if ratText(r) != text {
		return api.Fault{Code: api.ErrForm}
	}
	return api.Fault{}
}

func parses(t *testing.T, text string) {
	t.Helper()
	x, g := exact.Parse(text)
	if want := fault(text); g != want {
		t.Errorf("Parse(%.40q): %v, want %v", text, g, want)
	}
	if g.Code != api.OK {
		zero(t, text, x)
	} else if x.Text() != text {
		t.Errorf("Parse(%.40q): %s", text, x.Text())
	}
}

func TestParseOfAllShortTexts(t *testing.T) {
	texts := []string{""}
	for range 5 {
		longer := []string{""}
		for _, s := range texts {
			for _, c := range "-012469/x" {
				longer = append(longer, s+string(c))
			}
		}
		texts = longer
	}
	for _, text := range texts {
		parses(t, text)
	}
}

func TestParseOfOtherTexts(t *testing.T) {
	for _, text := range []string{
		"+1", " 1", "1 ", "1/ 2", "1 /2", "1/2 ", "1.5", "1e3", "0x10", "1_0", "1,0", "--1", "1//2", "1/-2", "1/+2", "-/2", "/2", "1/2/3", "\x00", "1\x00", "\xff", "1\n",
		"½", "−1", "１", "1/２", "٣", "nan", "inf", "1/00", "-0/0", "0/5", "-0/5", "0/000", "00", "-007", "1/02", "10/2", "3/9", "-9/3", "12345678901234567890/1", "/", "-", "9/",
	} {
		parses(t, text)
	}
}

func TestParseOfLongTexts(t *testing.T) {
	nines, noughts := strings.Repeat("9", api.MaxText), strings.Repeat("0", api.MaxText)
	for _, text := range []string{
		nines, nines + "9", "-" + nines, "-" + nines[1:], noughts, noughts + "x", noughts[1:] + "x",
		"1" + noughts, "1" + noughts[1:], "1/" + nines[2:], "1/" + nines[1:], "1/" + noughts[2:], "1/" + noughts[1:],
		nines[:1000] + "/" + nines[:999], "1" + noughts[:1000] + "/" + nines[:998], nines[:500] + "/7" + noughts[:1000], strings.Repeat("x", 3000),
	} {
		parses(t, text)
	}
}
