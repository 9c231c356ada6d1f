package span_test

import (
	"math"
	"math/big"
	"testing"

	"enclosure/api"
	"enclosure/span"
)

func TestPow(t *testing.T) {
	for _, c := range []struct {
		a    api.Span
		n    int
		want api.Span
		err  api.Errno
	}{
		{from(-3, 2), 0, from(1, 1), api.OK},
		{from(0, 0), 0, from(1, 1), api.OK},
		{from(-most, most), 0, from(1, 1), api.OK},
		{from(5, 6), 0, from(1, 1), api.OK},
		{from(-3, 2), 1, from(-3, 2), api.OK},
		{from(-most, most), 1, from(-most, most), api.OK},
		{from(-3, 2), 2, from(0, 9), api.OK},
		{from(-2, 3), 2, from(0, 9), api.OK},
		{from(2, 3), 2, from(4, 9), api.OK},
		{from(-3, -2), 2, from(4, 9), api.OK},
		{from(-3, 0), 2, from(0, 9), api.OK},
		{from(0, 3), 2, from(0, 9), api.OK},
		{from(minus, minus), 2, from(0, 0), api.OK},
		{from(-3, 2), 3, from(-27, 8), api.OK},
		{from(-3, -2), 3, from(-27, -8), api.OK},
		{from(-3, 2), 4, from(0, 81), api.OK},
		{from(-2, 3), 11, from(-2048, 177147), api.OK},
		{from(-2, 3), 12, from(0, 531441), api.OK},
		{from(1.1, 1.1), 2, from(1.2100000000000002, 1.2100000000000004), api.OK},
		{from(-least, -least), 2, from(0, least), api.OK},
		{from(-least, -least), 3, from(-least, 0), api.OK},
		{from(-least, least), 11, from(-least, least), api.OK},
		{from(least, 0x1p-89), 12, from(0, 0x1p-1068), api.OK},
		{from(0x1p-90, 0x1p-90), 12, from(0, least), api.OK},
		{from(-0x1p511, 0x1p511), 2, from(0, 0x1p1022), api.OK},
		{from(-0x1p85, 1), 12, from(0, 0x1p1020), api.OK},
		{from(-0x1p86, 1), 12, api.Span{}, api.ErrRange},
		{from(-1, 0x1p86), 12, api.Span{}, api.ErrRange},
		{from(-0x1p512, 0), 2, api.Span{}, api.ErrRange},
		{from(-0x1p512, 0), 3, api.Span{}, api.ErrRange},
		{from(-most, most), 12, api.Span{}, api.ErrRange},
		{from(most, most), 2, api.Span{}, api.ErrRange},
		// Only 0 to MaxDegree; and that is said ahead of what Check says.
		{from(2, 3), -1, api.Span{}, api.ErrMany},
		{from(2, 3), api.MaxDegree + 1, api.Span{}, api.ErrMany},
		{from(2, 3), math.MaxInt, api.Span{}, api.ErrMany},
		{from(2, 3), math.MinInt, api.Span{}, api.ErrMany},
		{from(1, 1), 1 << 32, api.Span{}, api.ErrMany},
		{from(nan, 1), -1, api.Span{}, api.ErrMany},
		{from(-inf, inf), 13, api.Span{}, api.ErrMany},
		{from(2, 1), 13, api.Span{}, api.ErrMany},
		{from(2, 1), -1, api.Span{}, api.ErrMany},
		{from(2, 1), 0, api.Span{}, api.ErrRange},
		{from(inf, inf), 0, api.Span{}, api.ErrNaN},
	} {
		got, err := span.Pow(c.a, c.n)
		told(t, "Pow", []any{c.a, c.n}, got, err, c.want, c.err)
	}
}

func TestPowOutwards(t *testing.T) {
	next := stream(4)
	for _, a := range spans(5, 6) {
		scale := math.Ldexp(1, -int(next()%3)*400)
		for _, s := range []api.Span{a, from(a.Lo*scale, a.Hi*scale), from(math.Cbrt(a.Lo), math.Cbrt(a.Hi))} {
			n := int(next() % (api.MaxDegree + 1))
			var l []*big.Rat
			for _, x := range within(s) {
				l = append(l, toThe(x, n))
			}
			want, code := outwards(l)
			got, err := span.Pow(s, n)
			told(t, "Pow", []any{s, n}, got, err, want, code)
		}
	}
}

func TestRoot(t *testing.T) {
	two := math.Sqrt2 // above the root of 2
	for _, c := range []struct {
		a, want api.Span
		err     api.Errno
	}{
		{from(4, 9), from(2, 3), api.OK},
		{from(0, 0), from(0, 0), api.OK},
		{from(minus, minus), from(0, 0), api.OK},
		{from(minus, 1), from(0, 1), api.OK},
		{from(0, 0.25), from(0, 0.5), api.OK},
		{from(2, 2), from(math.Nextafter(two, 1), two), api.OK},
		{from(2, 4), from(math.Nextafter(two, 1), 2), api.OK},
		{from(1, 2), from(1, two), api.OK},
		{from(1-0x1p-53, 1+0x1p-52), from(1-0x1p-53, 1+0x1p-52), api.OK},
		{from(0, least), from(0, 0x1p-537), api.OK},
		{from(0, 0x1p1022), from(0, 0x1p511), api.OK},
		{from(most, most), from(math.Nextafter(0x1p512, 1), 0x1p512), api.OK},
		{from(-1, 1), api.Span{}, api.ErrRange},
		{from(-least, 1), api.Span{}, api.ErrRange},
		{from(-2, -1), api.Span{}, api.ErrRange},
		{from(-least, minus), api.Span{}, api.ErrRange},
		{from(-most, most), api.Span{}, api.ErrRange},
	} {
		got, err := span.Root(c.a)
		told(t, "Root", c.a, got, err, c.want, c.err)
	}
}

// square is how the square of x, which isn't below 0, lies to v.
func square(x float64, v *big.Rat) int { return times(rat(x), rat(x)).Cmp(v) }

func TestRootOutwards(t *testing.T) {
	for _, a := range spans(6, 10) {
		got, err := span.Root(a)
		if a.Lo < 0 {
			told(t, "Root", a, got, err, api.Span{}, api.ErrRange)
			continue
		}
		lo, hi := rat(a.Lo), rat(a.Hi)
		below := got.Lo >= 0 && square(got.Lo, lo) <= 0 && square(math.Nextafter(got.Lo, inf), lo) > 0
		above := got.Hi >= 0 && square(got.Hi, hi) >= 0 && (got.Hi == 0 || square(math.Nextafter(got.Hi, 0), hi) < 0)
		if err != api.OK || !below || !above {
			t.Errorf("Root of %v: %v %d", a, got, err)
		}
	}
}
