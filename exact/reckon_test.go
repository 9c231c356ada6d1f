package exact_test

import (
	"math/big"
	"reflect"
	"testing"

	"enclosure/api"
	"enclosure/exact"
)

// told fails unless x is the fraction want, in lowest terms.
func told(t *testing.T, what string, x exact.Num, want *big.Rat) {
	t.Helper()
	if x.Text() != ratText(want) || x.Sign() != want.Sign() {
		t.Errorf("%s: %s, %d, want %s", what, x.Text(), x.Sign(), ratText(want))
	}
}

// floor is the greatest whole number that isn't above r.
func floor(r *big.Rat) *big.Rat {
	q, _ := new(big.Int).DivMod(r.Num(), r.Denom(), new(big.Int))
	return new(big.Rat).SetInt(q)
}

func TestReckoned(t *testing.T) {
	l := fractions()
	for _, f := range floats()[:150] {
		l = append(l, rat(f))
	}
	var nums []exact.Num
	for _, a := range l {
		nums = append(nums, num(t, a))
	}
	for i, a := range l {
		for j := i % 37; j < len(l); j += 37 {
			b := l[j]
			x, y := nums[i], nums[j]
			told(t, "sum", x.Add(y), new(big.Rat).Add(a, b))
			told(t, "difference", x.Sub(y), new(big.Rat).Sub(a, b))
			told(t, "product", x.Mul(y), new(big.Rat).Mul(a, b))
			if got := x.Cmp(y); got != a.Cmp(b) {
				t.Errorf("Cmp of %s, %s: %d", x.Text(), y.Text(), got)
			}
			if b.Sign() != 0 {
				z, err := x.Quo(y)
				told(t, "quotient", z, new(big.Rat).Quo(a, b))
				if err != api.OK {
					t.Errorf("Quo: %d", err)
				}
			}
			told(t, "left as it was", x, a)
			told(t, "left as it was", y, b)
		}
	}
}

func TestOfOne(t *testing.T) {
	for _, a := range fractions() {
		x := num(t, a)
		told(t, "opposite", x.Neg(), new(big.Rat).Neg(a))
		told(t, "floor", x.Floor(), floor(a))
		told(t, "back", x.Neg().Neg(), a)
		told(t, "nothing", x.Sub(x), new(big.Rat))
		told(t, "nothing", x.Add(x.Neg()), new(big.Rat))
		told(t, "left as it was", x, a)
		if x.Cmp(x) != 0 {
			t.Errorf("Cmp of %s and itself", x.Text())
		}
		z, err := x.Quo(exact.Int(0))
		zero(t, "Quo by 0", z)
		if err != api.ErrZero {
			t.Errorf("%s by 0: %d, want ErrZero", x.Text(), err)
		}
	}
}

func TestFloor(t *testing.T) {
	for _, c := range []struct{ a, b, want int }{
		{0, 1, 0}, {7, 1, 7}, {-7, 1, -7}, {7, 2, 3}, {-7, 2, -4}, {1, 3, 0}, {-1, 3, -1}, {-1, 1 << 62, -1}, {1 << 62, 3, (1<<62 - 1) / 3}, {-6, 3, -2},
	} {
		x, _ := exact.Over(c.a, c.b)
		if got := x.Floor(); got.Cmp(exact.Int(c.want)) != 0 {
			t.Errorf("Floor of %s: %s, want %d", x.Text(), got.Text(), c.want)
		}
	}
}

func TestZeroValue(t *testing.T) {
	var x exact.Num
	third, _ := exact.Over(1, 3)
	z, err := x.Quo(third)
	if err != api.OK {
		t.Errorf("0 / third: %d", err)
	}
	s, err := x.Square()
	if err != api.OK {
		t.Errorf("root of 0: %d", err)
	}
	for i, got := range []exact.Num{x, x.Add(x), x.Sub(x), x.Mul(x), x.Mul(third), third.Mul(x), x.Neg(), x.Floor(), z, s, exact.Int(0)} {
		if got.Text() != "0" || got.Sign() != 0 || got.Cmp(x) != 0 {
			t.Errorf("of 0, %d: %s, %d", i, got.Text(), got.Sign())
		}
		if !reflect.DeepEqual(got, x) {
			t.Errorf("of 0, %d: not the zero value", i)
		}
	}
	if x.Add(third).Text() != "1/3" || third.Add(x).Text() != "1/3" || x.Sub(third).Text() != "-1/3" || third.Sub(x).Text() != "1/3" {
		t.Errorf("0 and 1/3")
	}
	if x.Cmp(third) != -1 || third.Cmp(x) != 1 || x.Cmp(third.Neg()) != 1 {
		t.Errorf("Cmp of 0 and 1/3")
	}
}

func TestSquare(t *testing.T) {
	for i, a := range fractions() {
		square := new(big.Rat).Mul(a, a)
		x, err := num(t, square).Square()
		told(t, "root", x, new(big.Rat).Abs(a))
		if err != api.OK {
			t.Errorf("root of %s: %d", ratText(square), err)
		}
		if a.Sign() == 0 {
			continue
		}
		big2 := big.NewRat(2, 1)
		none := []*big.Rat{
			new(big.Rat).Mul(square, big2),
			new(big.Rat).Quo(square, big2),
			new(big.Rat).SetFrac(new(big.Int).Add(square.Num(), big.NewInt(1)), square.Denom()),
		}[i%3]
		if root := new(big.Int).Sqrt(none.Num()); new(big.Int).Mul(root, root).Cmp(none.Num()) == 0 && i%3 == 2 {
			continue // the next one is a square, too
		}
		x, err = num(t, none).Square()
		zero(t, "no root", x)
		if err != api.ErrNone {
			t.Errorf("root of %s: %d, want ErrNone", ratText(none), err)
		}
		x, err = num(t, square).Neg().Square()
		zero(t, "no root", x)
		if err != api.ErrRange {
			t.Errorf("root of -%s: %d, want ErrRange", ratText(square), err)
		}
	}
	for _, c := range []struct {
		a, b int
		want api.Errno
	}{{2, 1, api.ErrNone}, {1, 2, api.ErrNone}, {4, 3, api.ErrNone}, {3, 4, api.ErrNone}, {8, 2, api.OK}, {-1, 1, api.ErrRange}, {-2, 3, api.ErrRange}, {8, 18, api.OK}} {
		x, _ := exact.Over(c.a, c.b)
		if _, err := x.Square(); err != c.want {
			t.Errorf("root of %s: %d, want %d", x.Text(), err, c.want)
		}
	}
}
