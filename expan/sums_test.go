package expan_test

import (
	"math"
	"slices"
	"strconv"
	"sync"
	"testing"

	"enclosure/api"
	"enclosure/expan"
)

func TestSum(t *testing.T) {
	for _, c := range []struct {
		l                  []float64
		near, down, up, in float64
	}{
		{nil, 0, 0, 0, 0},
		{[]float64{minus}, 0, 0, 0, 0},
		{[]float64{1, 2, 3.5}, 6.5, 6.5, 6.5, 6.5},
		{[]float64{1e16, 1, -1e16}, 1, 1, 1, 1},
		{[]float64{1e16, 1}, 1e16, 1e16, 1e16 + 2, 1e16},
		{[]float64{-1e16, -1}, -1e16, -1e16 - 2, -1e16, -1e16},
		{[]float64{1e16, -1}, 1e16, 1e16 - 2, 1e16, 1e16 - 2},
		{[]float64{1e16, 1, least}, 1e16 + 2, 1e16, 1e16 + 2, 1e16},
		{[]float64{1e16, 1, -least}, 1e16, 1e16, 1e16 + 2, 1e16},
		{[]float64{1, 0x1p-53}, 1, 1, 1 + 0x1p-52, 1},
		{[]float64{1 + 0x1p-52, 0x1p-53}, 1 + 0x1p-51, 1 + 0x1p-52, 1 + 0x1p-51, 1 + 0x1p-52},
		{[]float64{least, -1}, -1, -1, -1 + 0x1p-53, -1 + 0x1p-53},
		{slices.Repeat([]float64{0.1}, 10), 1, 1, 1 + 0x1p-52, 1},
		{[]float64{least, least, -0x1p-1022}, -0x1p-1022 + 2*least, -0x1p-1022 + 2*least, -0x1p-1022 + 2*least, -0x1p-1022 + 2*least},
		// What is too great is no fault here.
		{[]float64{most, 0x1p970 - 0x1p917}, most, most, inf, most},
		{[]float64{most, 0x1p970}, inf, most, inf, most},
		{[]float64{most, 0x1p970, -least}, most, most, inf, most},
		{[]float64{most, most}, inf, most, inf, most},
		{[]float64{-most, -most}, -inf, -inf, -most, -most},
		{[]float64{most, most, -most}, most, most, most, most},
	} {
		for i, want := range []float64{c.near, c.down, c.up, c.in} {
			got, fault := expan.Sum(c.l, modes[i])
			is(t, "Sum, mode "+strconv.Itoa(modes[i])+",", c.l, got, fault, want, fine)
		}
	}
}

func TestSumIsRoundedOnce(t *testing.T) {
	for _, l := range lists(5, 4000) {
		for _, mode := range modes {
			got, fault := expan.Sum(l, mode)
			is(t, "Sum, mode "+strconv.Itoa(mode)+",", l, got, fault, rounded(added(l), mode), fine)
		}
	}
}

func TestDot(t *testing.T) {
	for _, c := range []struct {
		a, b               []float64
		near, down, up, in float64
	}{
		{nil, []float64{}, 0, 0, 0, 0},
		{[]float64{1, 2, 3}, []float64{4, 5, 6}, 32, 32, 32, 32},
		{[]float64{1e10, 1}, []float64{1e10, 1}, 1e20, 1e20, 1e20 + 16384, 1e20},
		{[]float64{1e10, -1}, []float64{1e10, 1}, 1e20, 1e20 - 16384, 1e20, 1e20 - 16384},
		{[]float64{0.1, -1}, []float64{10, 1}, 0x1p-54, 0x1p-54, 0x1p-54, 0x1p-54},
		{[]float64{0.1, 0.2}, []float64{0, minus}, 0, 0, 0, 0},
		// What is too great on the way, and isn't at last; and what is at last.
		{[]float64{most, most}, []float64{most, -most}, 0, 0, 0, 0},
		{[]float64{most, most, 3}, []float64{2, -2, 1}, 3, 3, 3, 3},
		{[]float64{most, most}, []float64{1, 0x1p-53}, inf, most, inf, most},
		{[]float64{most, most}, []float64{most, least}, inf, most, inf, most},
		{[]float64{most, -most}, []float64{-2, least}, -inf, -inf, -most, -most},
		// What is lower than floats are.
		{[]float64{least}, []float64{0.5}, 0, 0, least, 0},
		{[]float64{least}, []float64{-0.5}, 0, -least, 0, 0},
		{[]float64{least, least}, []float64{0.5, least}, least, 0, least, 0},
		{[]float64{least, least}, []float64{0.5, 0.5}, least, least, least, least},
		{[]float64{least, -least}, []float64{least, least}, 0, 0, 0, 0},
		{[]float64{1, least}, []float64{1, -least}, 1, 1 - 0x1p-53, 1, 1 - 0x1p-53},
		{[]float64{1, 0x1p-53, least}, []float64{1, 1, least}, 1 + 0x1p-52, 1, 1 + 0x1p-52, 1},
	} {
		for i, want := range []float64{c.near, c.down, c.up, c.in} {
			got, fault := expan.Dot(c.a, c.b, modes[i])
			is(t, "Dot, mode "+strconv.Itoa(modes[i])+",", [][]float64{c.a, c.b}, got, fault, want, fine)
			got, fault = expan.Dot(c.b, c.a, modes[i])
			is(t, "Dot, mode "+strconv.Itoa(modes[i])+",", [][]float64{c.b, c.a}, got, fault, want, fine)
		}
	}
}

func TestDotIsRoundedOnce(t *testing.T) {
	next := stream(6)
	for i, a := range lists(7, 3000) {
		b := make([]float64, len(a))
		for k := range b {
			b[k] = some(next, i%2047, min(i%2047+i%90, 2046))
			if k > 0 && next()%4 == 0 {
				a[k], b[k] = b[k-1], -a[k-1] // just what the one ahead adds is taken back
			}
		}
		for _, mode := range modes {
			got, fault := expan.Dot(a, b, mode)
			is(t, "Dot, mode "+strconv.Itoa(mode)+",", [][]float64{a, b}, got, fault, rounded(dot(a, b), mode), fine)
		}
	}
}

func TestWrongSums(t *testing.T) {
	shape := api.Fault{Code: api.ErrShape}
	for fault, bad := range badLists() {
		for _, l := range bad {
			for _, mode := range slices.Concat(modes, noModes) {
				got, code := expan.Sum(l, mode)
				is(t, "Sum", len(l), got, code, 0, fault)
				for _, other := range [][]float64{nil, {1}, long(len(l), nil)[:min(len(l), api.MaxList)]} {
					got, code = expan.Dot(l, other, mode)
					is(t, "Dot", len(l), got, code, 0, fault)
					got, code = expan.Dot(other, l, mode)
					is(t, "Dot", len(l), got, code, 0, fault)
				}
			}
			for _, others := range badLists() {
				for _, other := range others {
					got, code := expan.Dot(l, other, api.Near)
					is(t, "Dot", len(l), got, code, 0, fault)
				}
			}
		}
	}
	for _, l := range [][2][]float64{{nil, {1}}, {{1}, nil}, {{1, 2}, {1, 2, 3}}, {{1, 2, 3}, {1, 2}}, {long(1999, nil), long(2000, nil)}} {
		for _, mode := range slices.Concat(modes, noModes) {
			got, fault := expan.Dot(l[0], l[1], mode)
			is(t, "Dot", l, got, fault, 0, shape)
		}
	}
	for _, mode := range noModes {
		for _, l := range [][]float64{nil, {0}, {1, 2}, {1e16, 1}, {most, most}} {
			got, fault := expan.Sum(l, mode)
			is(t, "Sum", l, got, fault, 0, noRange)
			got, fault = expan.Dot(l, l, mode)
			is(t, "Dot", l, got, fault, 0, noRange)
		}
	}
}

func TestSums(t *testing.T) {
	for _, mode := range modes {
		for n := range api.MaxPoints + 1 {
			all := lists(uint64(n), n)
			want := make([]float64, n)
			for i, l := range all {
				want[i], _ = expan.Sum(l, mode)
			}
			got, fault := expan.Sums(all, mode)
			tells(t, "Sums", n, got, fault, want, fine)
		}
	}
	got, fault := expan.Sums([][]float64{nil, {1e16, 1}, {}, {most, most}, {1, 2}}, api.Up)
	tells(t, "Sums", "five", got, fault, []float64{0, 1e16 + 2, 0, inf, 3}, fine)
}

func TestWrongSumsOfSeveral(t *testing.T) {
	inner := func(code api.Errno, at int) api.Fault { return api.Fault{Code: code, At: at} }
	good, bad, more := []float64{1, 2}, []float64{1, 2, 3, nan}, long(api.MaxList+1, nil)
	many := slices.Repeat([][]float64{good}, api.MaxPoints+1)
	full := slices.Repeat([][]float64{good}, api.MaxPoints)
	last := slices.Clone(full)
	last[59] = bad
	for _, c := range []struct {
		l    [][]float64
		mode int
		want api.Fault
	}{
		{many, api.Near, inner(api.ErrMany, 0)},
		{append([][]float64{bad}, many...), 7, inner(api.ErrMany, 0)},
		{[][]float64{bad}, api.Near, inner(api.ErrNaN, 0)},
		{[][]float64{good, {inf}, more}, api.Near, inner(api.ErrNaN, 1)},
		{[][]float64{good, good, more, bad}, api.Down, inner(api.ErrMany, 2)},
		{slices.Repeat([][]float64{more}, api.MaxPoints), api.Up, inner(api.ErrMany, 0)},
		{last, api.In, inner(api.ErrNaN, 59)},
		{full, 0, inner(api.ErrRange, 0)},
		{last, 5, inner(api.ErrRange, 0)},
		{[][]float64{nil, bad}, -1, inner(api.ErrRange, 0)},
		{[][]float64{bad, good}, -1, inner(api.ErrNaN, 0)},
		{[][]float64{more, good}, math.MaxInt, inner(api.ErrMany, 0)},
		{nil, 0, fine}, // no list has a fault
		{[][]float64{}, 9, fine},
	} {
		got, fault := expan.Sums(c.l, c.mode)
		tells(t, "Sums", len(c.l), got, fault, nil, c.want)
	}
}

// TestSumsAtATime: what is answered doesn't hang on how the work is shared out, nor
// on who else asks; and nothing is read any more when the answer is there.
func TestSumsAtATime(t *testing.T) {
	all := lists(8, api.MaxPoints)
	want, _ := expan.Sums(all, api.Near)
	var callers sync.WaitGroup
	for range 8 {
		callers.Go(func() {
			for range 50 {
				got, fault := expan.Sums(all, api.Near)
				tells(t, "Sums", "sixty", got, fault, want, fine)
			}
		})
	}
	callers.Wait()
	for i := range 50 {
		own := slices.Clone(all)
		own[30+i%30] = []float64{nan}
		own[29-i%30] = []float64{1, inf}
		got, fault := expan.Sums(own, api.Near)
		tells(t, "Sums", "sixty", got, fault, nil, api.Fault{Code: api.ErrNaN, At: 29 - i%30})
		clear(own)
	}
}

func TestSumsAreOnlyRead(t *testing.T) {
	was := lists(9, 40)
	all := make([][]float64, len(was))
	for i, l := range was {
		all[i] = spare(l)
	}
	other := slices.Clone(all)
	got, _ := expan.Sums(all, api.Near)
	first := slices.Clone(got)
	for i, l := range was {
		expan.Sum(all[i], api.Up)
		expan.Dot(all[i], all[i], api.Up)
		kept(t, "a sum", all[i], l)
		if len(l) > 0 && &all[i][0] != &other[i][0] {
			t.Errorf("list %d is another one", i)
		}
		got[i] = nan
	}
	again, _ := expan.Sums(all, api.Near)
	if !slices.Equal(again, first) {
		t.Errorf("the second answer is another one: %v, %v", again, first)
	}
}
