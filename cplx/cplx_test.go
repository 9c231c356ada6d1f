package cplx_test

import (
	"math/big"
	"testing"

	"enclosure/api"
	"enclosure/cplx"
)

func TestKind(t *testing.T) {
	for _, a := range corners() {
		want := api.Normal
		switch {
		case endless(a):
			want = api.Inf
		case nothing(a):
			want = api.NaN
		case real(a) == 0 && imag(a) == 0:
			want = api.Zero
		}
		if got := cplx.Kind(a); got != want {
			t.Errorf("Kind of %v: %d, want %d", a, got, want)
		}
	}
	for _, a := range []complex128{1, 1i, complex(0, least), complex(-least, 0), complex(most, -most), 0.1 + 3i} {
		if got := cplx.Kind(a); got != api.Normal {
			t.Errorf("Kind of %v: %d", a, got)
		}
	}
}

func TestReckonsOrdinaryNumbers(t *testing.T) {
	for _, c := range []struct{ a, b, sum, difference, product, quotient complex128 }{
		{1 + 2i, 3 - 1i, 4 + 1i, -2 + 3i, 5 + 5i, 0.1 + 0.7i},
		{5 + 5i, 1 + 2i, 6 + 7i, 4 + 3i, -5 + 15i, 3 - 1i},
		{1, 1i, 1 + 1i, 1 - 1i, 1i, -1i},
		{-2i, 4, 4 - 2i, -4 - 2i, -8i, -0.5i},
		{0, 2 - 7i, 2 - 7i, -2 + 7i, 0, 0},
		{1, 3, 4, -2, 3, 1. / 3},
		{0.1 + 0.2i, 0.2 + 0.1i, 0.30000000000000004 + 0.30000000000000004i, -0.1 + 0.1i, 0.05i, 0.8 + 0.6i},
	} {
		of := []complex128{c.a, c.b}
		is(t, "Add", of, cplx.Add(c.a, c.b), c.sum)
		is(t, "Sub", of, cplx.Sub(c.a, c.b), c.difference)
		is(t, "Mul", of, cplx.Mul(c.a, c.b), c.product)
		is(t, "Quo", of, cplx.Quo(c.a, c.b), c.quotient)
	}
}

func TestPartsAreRoundedOnce(t *testing.T) {
	big, tiny := 1+0x1p-30, 1-0x1p-30
	for _, c := range []struct {
		what            string
		got, a, b, want complex128
	}{
		// Float products, rounded, would leave 0.
		{"Mul", cplx.Mul(complex(big, 1), complex(tiny, 1)), complex(big, 1), complex(tiny, 1), complex(-0x1p-60, 2)},
		{"Mul", cplx.Mul(complex(1, big), complex(1, tiny)), complex(1, big), complex(1, tiny), complex(0x1p-60, 2)},
		// On the way, these are too great.
		{"Mul", cplx.Mul(complex(most, most), 0.5+0.5i), complex(most, most), 0.5 + 0.5i, complex(0, most)},
		{"Mul", cplx.Mul(complex(most, most/2), 2+4i), complex(most, most/2), 2 + 4i, infinite},
		{"Mul", cplx.Mul(0x1p1000+0x1p1000i, 0x1p23+0x1p23i), 0x1p1000 + 0x1p1000i, 0x1p23 + 0x1p23i, infinite},
		{"Mul", cplx.Mul(0x1p1000+0x1p1000i, 0x1p23-0x1p22i), 0x1p1000 + 0x1p1000i, 0x1p23 - 0x1p22i, complex(0x1p1023+0x1p1022, 0x1p1022)},
		{"Quo", cplx.Quo(complex(most, most), complex(most, -most)), complex(most, most), complex(most, -most), 1i},
		{"Quo", cplx.Quo(complex(most, 1), complex(most, 1)), complex(most, 1), complex(most, 1), 1},
		// And these are too low.
		{"Quo", cplx.Quo(complex(least, least), complex(least, -least)), complex(least, least), complex(least, -least), 1i},
		{"Quo", cplx.Quo(complex(least, 0), complex(0, 2*least)), complex(least, 0), complex(0, 2*least), -0.5i},
		{"Mul", cplx.Mul(0x1p-600+0x1p-600i, 0x1p-475+0x1p-474i), 0x1p-600 + 0x1p-600i, 0x1p-475 + 0x1p-474i, complex(0, 2*least)}, // halves, to the even one
		{"Mul", cplx.Mul(complex(3*least, 0), 0.5), complex(3*least, 0), 0.5, complex(2*least, 0)},
		// If one part is infinite, all of it is.
		{"Add", cplx.Add(complex(most, 1), complex(most, 2)), complex(most, 1), complex(most, 2), infinite},
		{"Add", cplx.Add(complex(1, -most), complex(1, -most)), complex(1, -most), complex(1, -most), infinite},
		{"Add", cplx.Add(complex(most, 0), complex(0x1p969, 0)), complex(most, 0), complex(0x1p969, 0), complex(most, 0)},
		{"Add", cplx.Add(complex(most, 0), complex(0x1p970, 0)), complex(most, 0), complex(0x1p970, 0), infinite},
		{"Sub", cplx.Sub(complex(-most, 7), complex(most, 7)), complex(-most, 7), complex(most, 7), infinite},
		{"Sub", cplx.Sub(complex(1, most), complex(1, -most)), complex(1, most), complex(1, -most), infinite},
		{"Quo", cplx.Quo(complex(1, most), 0.5), complex(1, most), 0.5, infinite},
		{"Quo", cplx.Quo(1, complex(0, least)), 1, complex(0, least), infinite},
	} {
		is(t, c.what, []complex128{c.a, c.b}, c.got, c.want)
	}
}

// What comes of two of which one isn't finite, or a quotient by 0, by the chapter's words.

func sumAtEnd(a, b complex128) complex128 {
	if nothing(a) || nothing(b) || endless(a) && endless(b) {
		return none
	}
	return infinite
}

func productAtEnd(a, b complex128) complex128 {
	if nothing(a) || nothing(b) || a == 0 || b == 0 {
		return none
	}
	return infinite
}

func quotientAtEnd(a, b complex128) complex128 {
	switch {
	case nothing(a) || nothing(b) || endless(a) && endless(b) || a == 0 && b == 0:
		return none
	case endless(b):
		return 0
	}
	return infinite
}

func TestReckonsAtTheEnds(t *testing.T) {
	for _, a := range corners() {
		for _, b := range corners() {
			of := []complex128{a, b}
			if !finite(a) || !finite(b) {
				is(t, "Add", of, cplx.Add(a, b), sumAtEnd(a, b))
				is(t, "Sub", of, cplx.Sub(a, b), sumAtEnd(a, b))
				is(t, "Mul", of, cplx.Mul(a, b), productAtEnd(a, b))
			}
			if !finite(a) || !finite(b) || b == 0 {
				is(t, "Quo", of, cplx.Quo(a, b), quotientAtEnd(a, b))
			}
		}
	}
}

// reckons holds all four of finite ones against fractions.
func reckons(t *testing.T, a, b complex128) {
	t.Helper()
	v, w := just(a), just(b)
	of := []complex128{a, b}
	is(t, "Add", of, cplx.Add(a, b), exactly{plus(v.x, w.x), plus(v.y, w.y)}.rounded())
	is(t, "Sub", of, cplx.Sub(a, b), exactly{less(v.x, w.x), less(v.y, w.y)}.rounded())
	is(t, "Mul", of, cplx.Mul(a, b), product(v, w).rounded())
	if b != 0 {
		over := product(v, exactly{w.x, new(big.Rat).Neg(w.y)})
		by := new(big.Rat).Inv(norm(b))
		is(t, "Quo", of, cplx.Quo(a, b), exactly{times(over.x, by), times(over.y, by)}.rounded())
	}
}

func product(v, w exactly) exactly {
	return exactly{less(times(v.x, w.x), times(v.y, w.y)), plus(times(v.x, w.y), times(v.y, w.x))}
}

func TestReckonsAsFractionsDo(t *testing.T) {
	a, b := finites(1, 12), finites(2, 12)
	next := stream(3)
	for i := range a {
		reckons(t, a[i], b[next()%uint64(len(b))])
		reckons(t, a[i], b[i]) // both of the same sorts
		reckons(t, a[i], a[i])
	}
	for _, a := range corners() {
		for _, b := range corners() {
			if finite(a) && finite(b) {
				reckons(t, a, b)
			}
		}
	}
}
