package exact_test

import (
	"math"
	"math/big"
	"testing"

	"enclosure/api"
	"enclosure/exact"
)

var modes = []int{api.Near, api.Down, api.Up, api.In}

// around tells the greatest float that isn't above v, and the least that isn't
// below, where side tells the sign of v less a finite float.
func around(guess float64, side func(float64) int) (below, above float64) {
	below = guess
	for !math.IsInf(below, -1) && (math.IsInf(below, 1) || side(below) < 0) {
		below = math.Nextafter(below, math.Inf(-1))
	}
	for below != math.MaxFloat64 && (math.IsInf(below, -1) && side(-math.MaxFloat64) >= 0 || !math.IsInf(below, -1) && side(math.Nextafter(below, math.Inf(1))) >= 0) {
		below = math.Nextafter(below, math.Inf(1))
	}
	above = math.Nextafter(below, math.Inf(1))
	if !math.IsInf(below, -1) && side(below) == 0 {
		above = below
	}
	return below, above
}

// middle is half the way between two floats that are neighbours; what is infinite counts as 2 to the power of 1024.
func middle(below, above float64) *big.Rat {
	sum := new(big.Rat)
	for _, x := range []float64{below, above} {
		switch {
		case math.IsInf(x, 1):
			sum.Add(sum, twoTo(1024))
		case math.IsInf(x, -1):
			sum.Sub(sum, twoTo(1024))
		default:
			sum.Add(sum, rat(x))
		}
	}
	return sum.Quo(sum, big.NewRat(2, 1))
}

// chosen is below or above, by the chapter's words; half tells the sign of v less their middle.
func chosen(mode int, below, above float64, sign, half int) float64 {
	x := below
	switch mode {
	case api.Near:
		if half > 0 || half == 0 && math.Float64bits(below)&1 == 1 {
			x = above
		}
	case api.Up:
		x = above
	case api.In:
		if sign < 0 {
			x = above
		}
	}
	return math.Copysign(math.Abs(x), float64(sign)) // what is rounded to 0 keeps its sign; 0 itself has the sign +
}

func rounds(t *testing.T, v *big.Rat) {
	t.Helper()
	x := num(t, v)
	guess, _ := v.Float64()
	below, above := around(guess, func(f float64) int { return v.Cmp(rat(f)) })
	half := v.Cmp(middle(below, above))
	for _, mode := range modes {
		got, err := x.Float(mode)
		want := chosen(mode, below, above, v.Sign(), half)
		if err != api.OK || math.Float64bits(got) != math.Float64bits(want) {
			t.Errorf("Float(%d) of %.60s: %g, %d, want %g", mode, ratText(v), got, err, want)
		}
	}
	told(t, "left as it was", x, v)
}

// square is f f, of what isn't infinite.
func square(f *big.Rat) *big.Rat { return new(big.Rat).Mul(f, f) }

func roots(t *testing.T, v *big.Rat) {
	t.Helper()
	x := num(t, v)
	guess, _ := new(big.Float).Sqrt(new(big.Float).SetPrec(300).SetRat(v)).Float64()
	below, above := around(guess, func(f float64) int {
		if f < 0 {
			return 1
		}
		return v.Cmp(square(rat(f)))
	})
	half := v.Cmp(square(middle(below, above)))
	for _, mode := range modes {
		got, err := x.Root(mode)
		want := chosen(mode, below, above, v.Sign(), half)
		if err != api.OK || math.Float64bits(got) != math.Float64bits(want) {
			t.Errorf("Root(%d) of %.60s: %g, %d, want %g", mode, ratText(v), got, err, want)
		}
	}
	told(t, "left as it was", x, v)
}

// nearby: v, and what is a little less and more, of both signs.
func nearby(v *big.Rat) []*big.Rat {
	var l []*big.Rat
	for _, d := range []*big.Rat{new(big.Rat), twoTo(-200), twoTo(-1300), big.NewRat(1, math.MaxInt64)} {
		d = new(big.Rat).Mul(d, v)
		for _, r := range []*big.Rat{new(big.Rat).Sub(v, d), new(big.Rat).Add(v, d)} {
			l = append(l, r, new(big.Rat).Neg(r))
		}
	}
	return l
}

func TestFloatOfFractions(t *testing.T) {
	for _, v := range fractions() {
		rounds(t, v)
	}
}

func TestFloatOfFloatsAndHalves(t *testing.T) {
	for i, f := range floats() {
		if i%10 > 0 && i > 200 {
			continue
		}
		for _, v := range append(nearby(rat(f)), nearby(middle(f, math.Nextafter(f, math.Inf(1))))...) {
			rounds(t, v)
		}
	}
}

func TestFloatOfWholeNumbers(t *testing.T) {
	for k := 52; k < 72; k++ {
		one := new(big.Int).Lsh(big.NewInt(1), uint(k))
		for j := range k {
			for _, d := range []int64{-1, 0, 1} {
				n := new(big.Int).Add(one, new(big.Int).Lsh(big.NewInt(1), uint(j)))
				v := new(big.Rat).SetInt(n.Add(n, big.NewInt(d)))
				rounds(t, v)
				rounds(t, v.Neg(v))
				rounds(t, v.Mul(v, twoTo(-1074-j)))
			}
		}
	}
}

func TestFloatFarOut(t *testing.T) {
	for _, e := range []int{-5000, -1140, -1139, -1138, -1137, -1136, -1100, -1076, -1075, -1074, -1073, -1023, -1022, -1021, -971, 970, 971, 1022, 1023, 1024, 1025, 1100, 5000} {
		for _, v := range []*big.Rat{twoTo(e), new(big.Rat).Mul(twoTo(e), big.NewRat(3, 2)), new(big.Rat).Quo(twoTo(e), big.NewRat(3, 1))} {
			for _, near := range nearby(v) {
				rounds(t, near)
			}
		}
	}
	edge := new(big.Rat).Sub(twoTo(1024), twoTo(970)) // the greatest float and half of its Ulp
	for _, near := range nearby(edge) {
		rounds(t, near)
	}
}

func TestFloatOfTheEdges(t *testing.T) {
	inf, greatest, least := math.Inf(1), math.MaxFloat64, math.SmallestNonzeroFloat64
	minus := math.Copysign(0, -1)
	edge := new(big.Rat).Sub(twoTo(1024), twoTo(970))
	inside := new(big.Rat).Sub(edge, twoTo(-3000))
	tiny := new(big.Rat).Add(twoTo(-1075), twoTo(-4000))
	for _, c := range []struct {
		v                  *big.Rat
		near, down, up, in float64
	}{
		{new(big.Rat), 0, 0, 0, 0},
		{rat(greatest), greatest, greatest, greatest, greatest},
		{inside, greatest, greatest, inf, greatest},
		{edge, inf, greatest, inf, greatest},
		{twoTo(1024), inf, greatest, inf, greatest},
		{twoTo(5000), inf, greatest, inf, greatest},
		{new(big.Rat).Neg(inside), -greatest, -inf, -greatest, -greatest},
		{new(big.Rat).Neg(edge), -inf, -inf, -greatest, -greatest},
		{twoTo(-5000), 0, 0, least, 0},
		{twoTo(-1075), 0, 0, least, 0},
		{tiny, least, 0, least, 0},
		{new(big.Rat).Neg(twoTo(-5000)), minus, -least, minus, minus},
		{new(big.Rat).Neg(twoTo(-1075)), minus, -least, minus, minus},
		{new(big.Rat).Neg(tiny), -least, -least, minus, minus},
	} {
		x := num(t, c.v)
		for i, want := range []float64{c.near, c.down, c.up, c.in} {
			got, err := x.Float(modes[i])
			if err != api.OK || math.Float64bits(got) != math.Float64bits(want) {
				t.Errorf("Float(%d) of %.60s: %g, %d, want %g", modes[i], ratText(c.v), got, err, want)
			}
		}
	}
}

func TestFloatIsBackOfOf(t *testing.T) {
	for _, f := range floats() {
		x, _ := exact.Of(f)
		for _, mode := range modes {
			if got, err := x.Float(mode); got != f || err != api.OK {
				t.Errorf("Float(%d) of Of(%g): %g, %d", mode, f, got, err)
			}
		}
	}
}

func TestNoMode(t *testing.T) {
	third, _ := exact.Over(1, 3)
	great, _ := exact.Two(5000)
	for _, x := range []exact.Num{{}, third, third.Neg(), exact.Int(4), great, great.Neg()} {
		for _, mode := range []int{0, -1, 5, 6, math.MaxInt, math.MinInt} {
			if f, err := x.Float(mode); f != 0 || err != api.ErrRange {
				t.Errorf("Float(%d): %g, %d, want ErrRange", mode, f, err)
			}
			if f, err := x.Root(mode); f != 0 || err != api.ErrRange {
				t.Errorf("Root(%d): %g, %d, want ErrRange", mode, f, err)
			}
		}
	}
}

func TestRootOfWhatIsBelow(t *testing.T) {
	for _, v := range fractions() {
		for _, mode := range modes {
			if f, err := num(t, v).Root(mode); v.Sign() < 0 && (f != 0 || err != api.ErrRange) {
				t.Errorf("Root(%d) of %s: %g, %d, want ErrRange", mode, ratText(v), f, err)
			}
		}
	}
}

func TestRootOfFractions(t *testing.T) {
	for _, v := range fractions() {
		roots(t, new(big.Rat).Abs(v))
	}
}

func TestRootOfFloatsAndHalves(t *testing.T) {
	for i, f := range floats() {
		if i%10 > 0 && i > 200 || f < 0 {
			continue
		}
		for _, v := range append(nearby(square(rat(f))), nearby(square(middle(f, math.Nextafter(f, math.Inf(1)))))...) {
			if v.Sign() >= 0 {
				roots(t, v)
			}
		}
		roots(t, rat(f))
		if got, _ := num(t, rat(f)).Root(api.Near); got != math.Sqrt(f) {
			t.Errorf("root of %g: %g, want %g", f, got, math.Sqrt(f))
		}
	}
}

func TestRootFarOut(t *testing.T) {
	for _, e := range []int{-5000, -2152, -2151, -2150, -2149, -2148, -2147, -2045, -2044, -2043, -1, 0, 1, 2, 2045, 2046, 2047, 2048, 2049, 4999, 5000} {
		for _, v := range nearby(twoTo(e)) {
			if v.Sign() > 0 {
				roots(t, v)
			}
		}
	}
	inf, greatest, least := math.Inf(1), math.MaxFloat64, math.SmallestNonzeroFloat64
	for e, want := range map[int][4]float64{
		5000:  {inf, greatest, inf, greatest},
		2048:  {inf, greatest, inf, greatest},
		-5000: {0, 0, least, 0},
		-2150: {0, 0, least, 0},
		-2148: {least, least, least, least},
	} {
		x, _ := exact.Two(e)
		for i, mode := range modes {
			if got, err := x.Root(mode); got != want[i] || err != api.OK {
				t.Errorf("Root(%d) of Two(%d): %g, %d, want %g", mode, e, got, err, want[i])
			}
		}
	}
}
