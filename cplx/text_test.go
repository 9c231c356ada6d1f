package cplx_test

import (
	"regexp"
	"slices"
	"strconv"
	"strings"
	"testing"

	"enclosure/api"
	"enclosure/cplx"
)

// short is a finite part as chapter 3's Short writes it, by the library.
func short(x float64) string {
	text := strconv.FormatFloat(x, 'e', -1, 64)
	if x == 0 {
		return strings.TrimSuffix(text, "e+00")
	}
	digits, exp, _ := strings.Cut(text, "e")
	n, _ := strconv.Atoi(exp)
	return digits + "e" + strconv.Itoa(n)
}

// textOf is Text by the chapter's words.
func textOf(a complex128) string {
	switch {
	case endless(a):
		return "inf"
	case nothing(a):
		return "nan"
	}
	y := short(imag(a))
	if y[0] != '-' {
		y = "+" + y
	}
	return short(real(a)) + y + "i"
}

func TestText(t *testing.T) {
	for _, c := range []struct {
		a    complex128
		want string
	}{
		{1.5 - 2i, "1.5e0-2e0i"}, {0, "0+0i"}, {complex(minus, minus), "-0-0i"}, {complex(minus, 0), "-0+0i"}, {complex(0, minus), "0-0i"},
		{1i, "0+1e0i"}, {-0.1, "-1e-1+0i"}, {complex(1e-7, -1e22), "1e-7-1e22i"}, {complex(least, most), "5e-324+1.7976931348623157e308i"},
		{none, "nan"}, {complex(nan, 1), "nan"}, {complex(1, nan), "nan"}, {infinite, "inf"}, {complex(-inf, nan), "inf"}, {complex(nan, inf), "inf"}, {complex(1, -inf), "inf"},
	} {
		if got := cplx.Text(c.a); got != c.want {
			t.Errorf("Text of %v: %q, want %q", c.a, got, c.want)
		}
	}
}

// reads fails unless text is read as a, bit for bit but of none.
func reads(t *testing.T, text string, a complex128) {
	t.Helper()
	got, err := cplx.Parse(text)
	if err != api.OK || !same(got, a) || textOf(got) != textOf(a) {
		t.Errorf("Parse of %q: %v %d, want %v", text, got, err, a)
	}
}

func TestTextsThereAndBack(t *testing.T) {
	for _, a := range append(finites(9, 8), corners()...) {
		want := textOf(a)
		if got := cplx.Text(a); got != want {
			t.Errorf("Text of %v: %q, want %q", a, got, want)
		}
		switch {
		case endless(a):
			a = infinite
		case nothing(a):
			a = none
		}
		reads(t, want, a)
	}
}

// parts are the two decimals of a text.
var parts = regexp.MustCompile(`^(-?[0-9]+(?:\.[0-9]+)?(?:e-?[0-9]+)?)([+-][0-9]+(?:\.[0-9]+)?(?:e-?[0-9]+)?)i$`)

// meant is the number that Text writes so, if there is one.
func meant(text string) (complex128, bool) {
	switch text {
	case "inf":
		return infinite, true
	case "nan":
		return none, true
	}
	l := parts.FindStringSubmatch(text)
	if l == nil {
		return 0, false
	}
	x, _ := strconv.ParseFloat(l[1], 64)
	y, _ := strconv.ParseFloat(l[2], 64)
	a := complex(x, y)
	return a, textOf(a) == text
}

// judged fails unless Parse says of text what is meant.
func judged(t *testing.T, text string) {
	t.Helper()
	if a, ok := meant(text); ok {
		reads(t, text, a)
		return
	}
	if got, err := cplx.Parse(text); err != api.ErrText || got != 0 {
		t.Errorf("Parse of %q: %v %d", text, got, err)
	}
}

func TestParseOfWrongTexts(t *testing.T) {
	for _, text := range []string{
		"", "i", "0", "0i", "0+0", "0+i", "+0i", "1.5-2i", "1.5e0-2e0", "1.5e0-2e0i ", " 1.5e0-2e0i", "1.5e0-2e0ii", "1.5e0-2e0j", "1.5e0--2e0i", "1.5e0+-2e0i", "1.5e0++2e0i", "+1.5e0-2e0i",
		"1.5e+0-2e0i", "1.5E0-2e0i", "1.50e0-2e0i", "01e0+0i", "10e0+0i", "1e00+0i", "1e-0+0i", "1.e0+0i", ".5e0+0i", "1e0+0.5e0i", "0e0+0i", "0.0+0i", "00+0i", "0+00i", "0+0e0i", "--0+0i",
		"1e400+0i", "0+1e400i", "1e-400+0i", "inf+0i", "0+infi", "-inf", "+inf", "Inf", "INF", "NaN", "nan+nani", "-nan", "inf ", "nani", "infi", "infinity",
		"0.30000000000000001e0+0i", "3.0000000000000001e-1+0i", "1.00000000000000001e0+0i", "4e-324+0i", "6e-324+0i", "1e0+1e0i1e0i", "1e0+1e0+1e0i", "(1e0+1e0i)", "1e0 +1e0i", "1e0+1e0ı", "1e0−1e0i", "\x00", "1e0+1e0i\n",
	} {
		if _, ok := meant(text); ok {
			t.Fatalf("%q isn't wrong", text)
		}
		judged(t, text)
	}
}

func TestParseOfLongTexts(t *testing.T) {
	long := strings.Repeat("1", api.MaxText)
	for _, text := range []string{long, "-" + long[:api.MaxText-6] + "+1e0i", long[:1000] + "-" + long[:998] + "i", strings.Repeat("-", api.MaxText), strings.Repeat("1e0-", api.MaxText/4), "1e0+0i" + strings.Repeat(" ", api.MaxText-6)} {
		judged(t, text)
		for _, more := range []string{"1", "i", strings.Repeat("+", api.MaxText)} {
			if got, err := cplx.Parse(text + strings.Repeat("0", api.MaxText-len(text)) + more); err != api.ErrMany || got != 0 {
				t.Errorf("Parse of %d bytes: %v %d", len(text)+len(more), got, err)
			}
		}
	}
}

func TestParseOfShortTexts(t *testing.T) {
	texts := []string{""}
	for range 4 {
		var next []string
		for _, text := range texts {
			for _, r := range "019-+.einfa" {
				next = append(next, text+string(r))
			}
		}
		for _, text := range next {
			judged(t, text)
		}
		texts = next
	}
}

// One byte of a text that is right is left out, put in, or another one.
func TestParseOfTextsNearby(t *testing.T) {
	for _, text := range []string{"0+0i", "-0-0i", "1e0-1e0i", "-1.5e-10+2.25e3i", "inf", "nan", "0-5e-324i", "1.7976931348623157e308+1e0i"} {
		judged(t, text)
		for i := range len(text) + 1 {
			for _, r := range "0159-+.einfa \x00" {
				put := slices.Insert([]byte(text), i, byte(r))
				judged(t, string(put))
				if i < len(text) {
					judged(t, string(slices.Delete(put, i+1, i+2)))
				}
			}
			if i < len(text) {
				judged(t, text[:i]+text[i+1:])
			}
		}
	}
}
