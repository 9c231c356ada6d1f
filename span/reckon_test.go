package span_test

import (
	"math/big"
	"testing"

	"enclosure/api"
	"enclosure/span"
)

// way is one of the four ways to reckon with two spans, and what it is of numbers.
type way struct {
	name  string
	spans func(a, b api.Span) (api.Span, api.Errno)
	rats  func(x, y *big.Rat) *big.Rat
}

func ways() []way {
	return []way{{"Add", span.Add, plus}, {"Sub", span.Sub, less}, {"Mul", span.Mul, times}, {"Quo", span.Quo, over}}
}

func TestReckonsWithTwo(t *testing.T) {
	third := 1.0 / 3 // below 1/3
	for _, c := range []struct {
		name       string
		call       func(a, b api.Span) (api.Span, api.Errno)
		a, b, want api.Span
		err        api.Errno
	}{
		{"Add", span.Add, from(1, 2), from(3, 5), from(4, 7), api.OK},
		{"Add", span.Add, from(-1, 2), from(-3, -3), from(-4, -1), api.OK},
		{"Add", span.Add, from(1, 1), from(least, least), from(1, 1+0x1p-52), api.OK},
		{"Add", span.Add, from(1, 1), from(-least, least), from(1-0x1p-53, 1+0x1p-52), api.OK},
		{"Add", span.Add, from(-1, -1), from(-least, -least), from(-1-0x1p-52, -1), api.OK},
		{"Add", span.Add, from(0.1, 0.1), from(0.2, 0.2), from(0.3, 0.30000000000000004), api.OK},
		{"Add", span.Add, from(0, minus), from(minus, 0), from(0, 0), api.OK},
		{"Add", span.Add, from(-most, most), from(0, 0), from(-most, most), api.OK},
		{"Add", span.Add, from(most, most), from(-most, least), api.Span{}, api.ErrRange},
		{"Add", span.Add, from(most, most), from(-most, 0), from(0, most), api.OK},
		{"Add", span.Add, from(-most, 0), from(-least, 0), api.Span{}, api.ErrRange},
		{"Add", span.Add, from(most, most), from(1, 1), api.Span{}, api.ErrRange}, // Lo alone would be most
		{"Add", span.Add, from(-most, -most), from(-1, -1), api.Span{}, api.ErrRange},
		{"Sub", span.Sub, from(1, 2), from(3, 5), from(-4, -1), api.OK},
		{"Sub", span.Sub, from(1, 2), from(0, 5), from(-4, 2), api.OK},
		{"Sub", span.Sub, from(1, 2), from(1, 2), from(-1, 1), api.OK}, // each number of one by each of the other
		{"Sub", span.Sub, from(7, 7), from(7, 7), from(0, 0), api.OK},
		{"Sub", span.Sub, from(0, 1), from(-least, least), from(-least, 1+0x1p-52), api.OK},
		{"Sub", span.Sub, from(0, 0), from(-most, most), from(-most, most), api.OK},
		{"Sub", span.Sub, from(-least, 0), from(-most, most), api.Span{}, api.ErrRange},
		{"Sub", span.Sub, from(0, least), from(-most, most), api.Span{}, api.ErrRange},
		{"Mul", span.Mul, from(2, 3), from(4, 5), from(8, 15), api.OK},
		{"Mul", span.Mul, from(-3, -2), from(4, 5), from(-15, -8), api.OK},
		{"Mul", span.Mul, from(-3, -2), from(-5, -4), from(8, 15), api.OK},
		{"Mul", span.Mul, from(-1, 2), from(3, 4), from(-4, 8), api.OK},
		{"Mul", span.Mul, from(-1, 2), from(-4, -3), from(-8, 4), api.OK},
		{"Mul", span.Mul, from(-1, 2), from(-3, 4), from(-6, 8), api.OK},
		{"Mul", span.Mul, from(-5, 2), from(-3, 4), from(-20, 15), api.OK},
		{"Mul", span.Mul, from(-5, 2), from(-4, 3), from(-15, 20), api.OK},
		{"Mul", span.Mul, from(-2, 5), from(-4, 1), from(-20, 8), api.OK},
		{"Mul", span.Mul, from(0, 0), from(-most, most), from(0, 0), api.OK},
		{"Mul", span.Mul, from(0, 1), from(-most, most), from(-most, most), api.OK},
		{"Mul", span.Mul, from(0.1, 0.1), from(10, 10), from(1, 1+0x1p-52), api.OK},
		{"Mul", span.Mul, from(least, least), from(least, least), from(0, least), api.OK},
		{"Mul", span.Mul, from(-least, least), from(least, least), from(-least, least), api.OK},
		{"Mul", span.Mul, from(-least, -least), from(0.5, 0.5), from(-least, 0), api.OK},
		{"Mul", span.Mul, from(most, most), from(1, 1+0x1p-52), api.Span{}, api.ErrRange},
		{"Mul", span.Mul, from(-most, 1), from(1, 1+0x1p-52), api.Span{}, api.ErrRange},
		{"Mul", span.Mul, from(most, most), from(most, most), api.Span{}, api.ErrRange},
		{"Quo", span.Quo, from(1, 1), from(3, 3), from(third, third+0x1p-54), api.OK},
		{"Quo", span.Quo, from(-1, -1), from(3, 3), from(-third-0x1p-54, -third), api.OK},
		{"Quo", span.Quo, from(1, 2), from(4, 8), from(0.125, 0.5), api.OK},
		{"Quo", span.Quo, from(-1, 2), from(4, 8), from(-0.25, 0.5), api.OK},
		{"Quo", span.Quo, from(-1, 2), from(-8, -4), from(-0.5, 0.25), api.OK},
		{"Quo", span.Quo, from(-2, -1), from(-8, -4), from(0.125, 0.5), api.OK},
		{"Quo", span.Quo, from(0, 0), from(least, most), from(0, 0), api.OK},
		{"Quo", span.Quo, from(least, least), from(1, most), from(0, least), api.OK},
		{"Quo", span.Quo, from(1, 1), from(0x1p-1022, 1), from(1, 0x1p1022), api.OK},
		{"Quo", span.Quo, from(1, 1), from(least, 1), api.Span{}, api.ErrRange},
		{"Quo", span.Quo, from(-1, -1), from(least, 1), api.Span{}, api.ErrRange},
		{"Quo", span.Quo, from(most, most), from(1-0x1p-53, 1-0x1p-53), api.Span{}, api.ErrRange},
		{"Quo", span.Quo, from(1, 1), from(-1, 1), api.Span{}, api.ErrZero},
		{"Quo", span.Quo, from(0, 0), from(0, 0), api.Span{}, api.ErrZero},
		{"Quo", span.Quo, from(0, 0), from(minus, minus), api.Span{}, api.ErrZero},
		{"Quo", span.Quo, from(1, 2), from(0, 1), api.Span{}, api.ErrZero},
		{"Quo", span.Quo, from(1, 2), from(minus, most), api.Span{}, api.ErrZero},
		{"Quo", span.Quo, from(1, 2), from(-1, 0), api.Span{}, api.ErrZero},
		{"Quo", span.Quo, from(1, 2), from(-1, minus), api.Span{}, api.ErrZero},
		{"Quo", span.Quo, from(most, most), from(-least, least), api.Span{}, api.ErrZero},
	} {
		got, err := c.call(c.a, c.b)
		told(t, c.name, []api.Span{c.a, c.b}, got, err, c.want, c.err)
	}
}

// reckons holds all four ways against the chapter's words.
func reckons(t *testing.T, a, b api.Span) {
	t.Helper()
	for _, w := range ways() {
		want, code := api.Span{}, api.ErrZero
		if w.name != "Quo" || b.Lo > 0 || b.Hi < 0 {
			var l []*big.Rat
			for _, x := range within(a) {
				for _, y := range within(b) {
					l = append(l, w.rats(x, y))
				}
			}
			want, code = outwards(l)
		}
		got, err := w.spans(a, b)
		told(t, w.name, []api.Span{a, b}, got, err, want, code)
	}
}

func TestReckonsOutwards(t *testing.T) {
	l := spans(2, 3)
	next := stream(3)
	for _, a := range l {
		for range 6 {
			reckons(t, a, l[next()%uint64(len(l))])
		}
		reckons(t, a, a)
	}
}

func TestReckonsWithCorners(t *testing.T) {
	ends := []float64{-most, -1, -0x1p-1022, -least, 0, least, 0x1p-1022, 1, 3, most}
	var l []api.Span
	for i, lo := range ends {
		for _, hi := range ends[i:] {
			l = append(l, from(lo, hi))
		}
	}
	for i, a := range l {
		for k, b := range l {
			if (i+2*k)%3 == 0 {
				reckons(t, a, b)
			}
		}
	}
}
