package taylor_test

import (
	"math/big"
	"slices"
	"testing"

	"enclosure/api"
	"enclosure/taylor"
)

func TestRange(t *testing.T) {
	ones := slices.Repeat([]float64{1}, 12)
	for _, c := range []struct {
		m    taylor.Model
		want api.Span
		err  api.Fault
	}{
		{model(0), from(0, 0), fine},
		{model(2), from(-2, 2), fine},
		{taylor.Model{C: []float64{}, Rest: 2}, from(-2, 2), fine},
		{model(0, -3), from(-3, -3), fine},
		{model(0.5, 1, 1), from(-0.5, 2.5), fine},
		{model(0.5, -1, -2, 3), from(-6.5, 4.5), fine},
		{model(0, 0, 0, 1), from(-1, 1), fine}, // of t t, too: signs are left out
		{model(1, append([]float64{5}, ones...)...), from(-8, 18), fine},
		{model(least, 1), from(1-bit/2, 1+bit), fine},
		{model(0, 1, least), from(1-bit/2, 1+bit), fine},
		{model(0, 1, -least), from(1-bit/2, 1+bit), fine},
		{model(0, -1, 0x1p-53), from(-1-bit, -1+bit/2), fine},
		{model(most), from(-most, most), fine},
		{model(0, most), from(most, most), fine},
		{model(most, most), api.Span{}, fault(api.ErrRange, 0)},
		{model(least, most), api.Span{}, fault(api.ErrRange, 0)},
		{model(0, -most, least), api.Span{}, fault(api.ErrRange, 0)},
		{model(most, 0, least), api.Span{}, fault(api.ErrRange, 0)},
		{model(0, 1, most, -most), api.Span{}, fault(api.ErrRange, 0)},
		{model(0x1p971, most-0x1p971), from(most-0x1p972, most), fine},
	} {
		s, err := taylor.Range(c.m)
		spanned(t, "Range", c.m, s, err, c.want, c.err)
	}
}

func TestAt(t *testing.T) {
	ones := slices.Repeat([]float64{1}, 13)
	for _, c := range []struct {
		m    taylor.Model
		t    float64
		want api.Span
		err  api.Fault
	}{
		{model(0), 0.3, from(0, 0), fine},
		{model(2), -1, from(-2, 2), fine},
		{taylor.Model{C: []float64{}, Rest: 2}, minus, from(-2, 2), fine},
		{model(0.5, 1, 1), 0.5, from(1, 2), fine},
		{model(0, 1, 2, 3), 1, from(6, 6), fine},
		{model(0, 1, 2, 3), -1, from(2, 2), fine},
		{model(0, 1, 2, 3), minus, from(1, 1), fine},
		{model(0, 1, 2, 3), -0.5, from(0.75, 0.75), fine},
		{model(1, ones...), 1, from(12, 14), fine},
		{model(1, ones...), -1, from(0, 2), fine},
		{model(0, ones...), least, from(1, 1+bit), fine},
		{model(0, ones...), -least, from(1-bit/2, 1), fine},
		{model(0, 0, 1), least, from(least, least), fine},
		{model(0, 0, 0, 1), least, from(0, least), fine},
		{model(0, 0, 0, 0, 1), -least, from(-least, 0), fine},
		{model(0, 0, 0.1), 0.1, from(0.01, 0.010000000000000002), fine},
		{model(least, 1), 0, from(1-bit/2, 1+bit), fine},
		{model(0, most, most), -1, from(0, 0), fine},
		{model(0, most, most), -0.5, from(most/2, most/2), fine},
		{model(0, most, most), least, api.Span{}, fault(api.ErrRange, 0)},
		{model(0, most, most), 1, api.Span{}, fault(api.ErrRange, 0)},
		{model(0, -most, least), -1, api.Span{}, fault(api.ErrRange, 0)},
		{model(0, -most, least), 1, from(-most, -most+0x1p971), fine},
		{model(0, most, least), least, api.Span{}, fault(api.ErrRange, 0)},
		{model(most), 0.5, from(-most, most), fine},
		{model(most, least), 0.5, api.Span{}, fault(api.ErrRange, 0)},
		{model(most, 0, least), 0, from(-most, most), fine},
	} {
		s, err := taylor.At(c.m, c.t)
		spanned(t, "At", []any{c.m, c.t}, s, err, c.want, c.err)
	}
}

// TestValuesAsSaid holds both against the chapter's words.
func TestValuesAsSaid(t *testing.T) {
	next := stream(5)
	for _, m := range models(6, 4) {
		p, rest := rats(m.C), rat(m.Rest)
		first := new(big.Rat)
		if len(p) > 0 {
			first = p[0]
		}
		want, code := outwards(first, plus(less(sizes(p), abs(first)), rest))
		s, err := taylor.Range(m)
		spanned(t, "Range", m, s, err, want, code)
		for _, x := range points(next) {
			want, code = outwards(value(p, rat(x)), rest)
			s, err = taylor.At(m, x)
			spanned(t, "At", []any{m, x}, s, err, want, code)
		}
	}
}
