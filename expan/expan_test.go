package expan_test

import (
	"math"
	"slices"
	"testing"

	"enclosure/api"
	"enclosure/expan"
)

var noRange = api.Fault{Code: api.ErrRange}

func TestOf(t *testing.T) {
	for _, c := range []struct {
		l, want []float64
		fault   api.Fault
	}{
		{nil, nil, fine},
		{[]float64{}, nil, fine},
		{[]float64{0, minus}, nil, fine},
		{[]float64{1.5}, []float64{1.5}, fine},
		{[]float64{1, 2, 3}, []float64{6}, fine},
		{[]float64{1, 1e17, 1e-20, 0}, []float64{1e17, 1, 1e-20}, fine},
		{[]float64{1e-20, 1, 1e17}, []float64{1e17, 1, 1e-20}, fine},
		{[]float64{0.1, 0.2}, []float64{0.30000000000000004, -0x1p-55}, fine},
		{[]float64{1e17, 1, -1e17}, []float64{1}, fine},
		{[]float64{1e17, 1, -1e17, -1}, nil, fine},
		// Halves go to the even one, and what is beside them doesn't.
		{[]float64{1, 0x1p-53}, []float64{1, 0x1p-53}, fine},
		{[]float64{1 + 0x1p-52, 0x1p-53}, []float64{1 + 0x1p-51, -0x1p-53}, fine},
		{[]float64{1, 0x1p-53, least}, []float64{1 + 0x1p-52, -0x1p-53, least}, fine},
		{[]float64{1, 0x1p-53, -least}, []float64{1, 0x1p-53, -least}, fine},
		{[]float64{1, 0x1p-53, 0x1p-106}, []float64{1 + 0x1p-52, -0x1p-53 + 0x1p-106}, fine},
		{[]float64{-1, least}, []float64{-1, least}, fine},
		// What has no leading one is told as well.
		{[]float64{least, least}, []float64{2 * least}, fine},
		{[]float64{0x1p-1022, -least}, []float64{0x1p-1022 - least}, fine},
		// What is too great.
		{[]float64{most, 0x1p970 - 0x1p917}, []float64{most, 0x1p970 - 0x1p917}, fine},
		{[]float64{most, 0x1p970}, nil, noRange},
		{[]float64{most, 0x1p970, -least}, []float64{most, 0x1p970, -least}, fine},
		{[]float64{-most, -0x1p970}, nil, noRange},
		{[]float64{-most, -0x1p970, least}, []float64{-most, -0x1p970, least}, fine},
		{[]float64{most, most}, nil, noRange},
		{[]float64{most, most, -most}, []float64{most}, fine},
		{[]float64{most, most, 1, -most, -most}, []float64{1}, fine},
		{[]float64{-most, -most, -most, most, most, least}, []float64{-most, least}, fine},
	} {
		l, fault := expan.Of(c.l)
		tells(t, "Of", c.l, l, fault, c.want, c.fault)
	}
}

// inRange is l, or what must be told where there is no list.
func inRange(l []float64, ok bool) ([]float64, api.Fault) {
	if !ok {
		return nil, noRange
	}
	return l, fine
}

func TestOfIsTheListOfTheSum(t *testing.T) {
	none := 0
	for _, l := range lists(1, 4000) {
		want, fault := inRange(entries(added(l), math.MaxInt))
		got, code := expan.Of(l)
		tells(t, "Of", l, got, code, want, fault)
		if fault != fine {
			none++
			continue
		}
		again, code := expan.Of(got)
		tells(t, "Of, once more,", got, again, code, want, fine)
		slices.Reverse(l)
		turned, code := expan.Of(l)
		tells(t, "Of, turned round,", l, turned, code, want, fine)
	}
	if none == 0 || none > 2000 {
		t.Errorf("%d lists have none", none)
	}
}

// TestOfAllDigits: lists as long as they come, with a digit at each place and at each other.
func TestOfAllDigits(t *testing.T) {
	var all, others []float64
	for e := -1074; e < 1024; e++ {
		if len(all) < api.MaxList {
			all = append(all, math.Ldexp(1, e))
		}
		if e%2 == 0 {
			others = append(others, math.Ldexp(float64(1-e%4), e)) // both signs
		}
	}
	for _, l := range [][]float64{all, others} {
		want, fault := inRange(entries(added(l), math.MaxInt))
		got, code := expan.Of(l)
		tells(t, "Of", len(l), got, code, want, fault)
	}
	got, _ := expan.Of(others)
	if len(got) < 38 {
		t.Errorf("Of all digits: only %d floats", len(got))
	}
}

func TestMul(t *testing.T) {
	for _, c := range []struct {
		a, b, want []float64
		fault      api.Fault
	}{
		{nil, nil, nil, fine},
		{nil, []float64{1}, nil, fine},
		{[]float64{1, -1}, []float64{most, most}, nil, fine},
		{[]float64{3}, []float64{4}, []float64{12}, fine},
		{[]float64{-3}, []float64{4, 1}, []float64{-15}, fine},
		{[]float64{1e10, 1}, []float64{1e10, -1}, []float64{1e20, -1}, fine},
		{[]float64{0.1}, []float64{10}, []float64{1, 0x1p-54}, fine},
		{[]float64{1, 0x1p-60}, []float64{1, 0x1p-60}, []float64{1, 0x1p-59, 0x1p-120}, fine},
		// Sums, and products on the way, that are too great.
		{[]float64{most, most}, []float64{0.5}, []float64{most}, fine},
		{[]float64{most, most, most, most}, []float64{least}, []float64{8 * (1 - 0x1p-53) * 0x1p-51}, fine},
		{[]float64{most}, []float64{1, 0x1p-53}, nil, noRange},
		{[]float64{most}, []float64{1, 0x1p-54}, []float64{most, 0x1p970 - 0x1p917}, fine},
		{[]float64{most}, []float64{-2}, nil, noRange},
		{[]float64{-most, -most}, []float64{most, most}, nil, noRange},
		// What is lower than floats are.
		{[]float64{least}, []float64{1}, []float64{least}, fine},
		{[]float64{least}, []float64{0.5}, nil, noRange},
		{[]float64{least}, []float64{0.75}, nil, noRange}, // the least float, and then a quarter of it
		{[]float64{least}, []float64{least}, nil, noRange},
		{[]float64{least, least}, []float64{0.5}, []float64{least}, fine},
		{[]float64{0x1p-537}, []float64{-0x1p-537}, []float64{-least}, fine},
		{[]float64{1 + 0x1p-52}, []float64{0x1p-970 + 0x1p-1022}, []float64{0x1p-970 + 0x1p-1021, least}, fine},
		{[]float64{1 + 0x1p-52}, []float64{0x1p-971 + 0x1p-1023}, nil, noRange},
		{[]float64{1, least}, []float64{1, least}, nil, noRange}, // all but the very last digit is told
		{[]float64{1, least}, []float64{1}, []float64{1, least}, fine},
	} {
		l, fault := expan.Mul(c.a, c.b)
		tells(t, "Mul", [][]float64{c.a, c.b}, l, fault, c.want, c.fault)
		l, fault = expan.Mul(c.b, c.a)
		tells(t, "Mul", [][]float64{c.b, c.a}, l, fault, c.want, c.fault)
	}
}

func TestMulIsTheListOfTheProduct(t *testing.T) {
	none := 0
	all, next := lists(2, 4000), stream(2)
	for _, a := range all {
		b := all[next()%uint64(len(all))]
		want, fault := inRange(entries(product(added(a), added(b)), math.MaxInt))
		got, code := expan.Mul(a, b)
		tells(t, "Mul", [][]float64{a, b}, got, code, want, fault)
		if fault != fine {
			none++
		}
	}
	if none == 0 || none > 3500 {
		t.Errorf("%d products have none", none)
	}
}

func TestCmp(t *testing.T) {
	for _, c := range []struct {
		a, b []float64
		want int
	}{
		{nil, nil, 0},
		{nil, []float64{minus}, 0},
		{[]float64{least}, nil, 1},
		{nil, []float64{least}, -1},
		{[]float64{1e16, 1}, []float64{1e16}, 1},
		{[]float64{1e16, -1}, []float64{1e16}, -1},
		{[]float64{1e16, 1, -1}, []float64{1e16}, 0},
		{[]float64{0.1, 0.2}, []float64{0.3}, 1},
		{[]float64{0.1, 0.2}, []float64{0.30000000000000004}, -1},
		{[]float64{0.1, 0.2}, []float64{0.30000000000000004, -0x1p-55}, 0},
		{[]float64{most, most}, []float64{most}, 1},
		{[]float64{most, most, least}, []float64{most, most}, 1},
		{[]float64{most, most}, []float64{0x1p1023, 0x1p1023, 0x1p1023, 0x1p1023}, -1},
		{[]float64{-most, -most}, []float64{most, most}, -1},
		{[]float64{-1}, []float64{1}, -1},
		{[]float64{-1}, []float64{-2}, 1},
	} {
		got, fault := expan.Cmp(c.a, c.b)
		is(t, "Cmp", [][]float64{c.a, c.b}, got, fault, c.want, fine)
		got, fault = expan.Cmp(c.b, c.a)
		is(t, "Cmp", [][]float64{c.b, c.a}, got, fault, -c.want, fine)
	}
}

func TestCmpIsTheSignOfWhatIsBetween(t *testing.T) {
	for _, l := range lists(3, 2000) {
		for _, b := range [][]float64{nil, {1}, append([]float64{least}, l...), append([]float64{-most, -least}, l...), slices.Sorted(slices.Values(l))} {
			got, fault := expan.Cmp(l, b)
			is(t, "Cmp", [][]float64{l, b}, got, fault, added(l).Cmp(added(b)), fine)
		}
	}
}

func TestWrongLists(t *testing.T) {
	ones := []float64{1, 2}
	for fault, bad := range badLists() {
		for _, l := range bad {
			got, code := expan.Of(l)
			tells(t, "Of", len(l), got, code, nil, fault)
			for _, other := range [][]float64{nil, ones, long(api.MaxList, nil)} {
				got, code = expan.Mul(l, other)
				tells(t, "Mul", len(l), got, code, nil, fault)
				got, code = expan.Mul(other, l)
				tells(t, "Mul", len(l), got, code, nil, fault)
				sign, code := expan.Cmp(l, other)
				is(t, "Cmp", len(l), sign, code, 0, fault)
				sign, code = expan.Cmp(other, l)
				is(t, "Cmp", len(l), sign, code, 0, fault)
			}
			for _, others := range badLists() { // the first list's goes first, whatever it is
				for _, other := range others {
					got, code = expan.Mul(l, other)
					tells(t, "Mul", len(l), got, code, nil, fault)
					sign, code := expan.Cmp(l, other)
					is(t, "Cmp", len(l), sign, code, 0, fault)
				}
			}
		}
	}
}

func TestLongestLists(t *testing.T) {
	l := long(api.MaxList, map[int]float64{17: 0x1p60, 1999: least})
	got, fault := expan.Of(l)
	tells(t, "Of", "2000", got, fault, []float64{0x1p60 + 0x1p11, -50, least}, fine)
	got, fault = expan.Mul(l, l)
	tells(t, "Mul", "2000", got, fault, nil, noRange)
	got, fault = expan.Mul(l, long(api.MaxList, nil))
	tells(t, "Mul", "2000", got, fault, []float64{0x1p60*2000 + 15*0x1p18, 63840, 2000 * least}, fine)
	sign, fault := expan.Cmp(l, long(api.MaxList, map[int]float64{17: 0x1p60}))
	is(t, "Cmp", "2000", sign, fault, -1, fine)
}

func TestListsAreOnlyRead(t *testing.T) {
	for _, l := range append(lists(4, 200), []float64{1}, []float64{1, nan}) {
		a, b := spare(l), spare(l)
		of, _ := expan.Of(a)
		kept(t, "Of", a, l)
		mul, _ := expan.Mul(a, b)
		expan.Cmp(a, b)
		kept(t, "Mul or Cmp", a, l)
		kept(t, "Mul or Cmp", b, l)
		// What is answered may be changed without harm to what was handed in, or to the next answer.
		same, other := slices.Clone(of), slices.Clone(mul)
		for _, answer := range [][]float64{of, mul} {
			for i := range answer {
				answer[i] = nan
			}
		}
		kept(t, "an answer", a, l)
		kept(t, "an answer", b, l)
		again, _ := expan.Of(a)
		once, _ := expan.Mul(a, b)
		if !slices.Equal(again, same) || !slices.Equal(once, other) {
			t.Errorf("the second answer for %v is another one", l)
		}
	}
}
