package wave_test

import (
	"math"
	"slices"
	"testing"

	"enclosure/api"
	"enclosure/wave"
)

const top = 1000000

// multiplied is Convolve by the chapter's words; no sum is too great for an int.
func multiplied(a, b []int) []int {
	if len(a) == 0 || len(b) == 0 {
		return nil
	}
	l := make([]int, len(a)+len(b)-1)
	for i, x := range a {
		for k, y := range b {
			l[i+k] += x * y
		}
	}
	return l
}

func TestConvolve(t *testing.T) {
	for _, c := range []struct{ a, b, want []int }{
		{[]int{1, 2, 3}, []int{4, 5}, []int{4, 13, 22, 15}},
		{[]int{1, -2, 3}, []int{4, 5}, []int{4, -3, 2, 15}},
		{[]int{7}, []int{-6}, []int{-42}},
		{[]int{0}, []int{0}, []int{0}},
		{[]int{0, 0}, []int{5, 6}, []int{0, 0, 0}},
		{[]int{top}, []int{top}, []int{1e12}},
		{[]int{-top}, []int{top, -top}, []int{-1e12, 1e12}},
		{[]int{1}, []int{1, 2, 3, 4, 5}, []int{1, 2, 3, 4, 5}},
		{[]int{0, 0, 1}, []int{1, 2}, []int{0, 0, 1, 2}},
		{nil, nil, nil},
		{nil, []int{1, 2}, nil},
		{[]int{1, 2}, []int{}, nil},
		{[]int{}, make([]int, api.MaxWave/2), nil},
	} {
		got, fault := wave.Convolve(c.a, c.b)
		tells(t, "Convolve", [][]int{c.a, c.b}, got, fault, c.want, fine)
	}
}

// factors are lists of all lengths, of several kinds each.
func factors(seed uint64) [][]int {
	next := stream(seed)
	makers := []func(int) int{
		func(int) int { return top },
		func(int) int { return -top },
		func(i int) int { return top - i%2*2*top },
		func(int) int { return int(next()%(2*top+1)) - top },
		func(int) int { return int(next()%3) - 1 },
	}
	var l [][]int
	for n := range api.MaxWave/2 + 1 {
		l = append(l, filled(n, makers[n%len(makers)]))
	}
	for _, made := range makers {
		l = append(l, filled(api.MaxWave/2, made), filled(17, made))
	}
	return l
}

func TestConvolveIsExact(t *testing.T) {
	all := factors(4)
	for _, a := range all {
		for _, b := range all {
			got, fault := wave.Convolve(a, b)
			tells(t, "Convolve", [][]int{a, b}, got, fault, multiplied(a, b), fine)
		}
	}
}

func TestWrongFactors(t *testing.T) {
	half := api.MaxWave / 2
	good, more := []int{1, 2, 3}, make([]int, half+1)
	for _, c := range []struct {
		a, b []int
		want api.Fault
	}{
		{more, good, at(api.ErrMany, 0)},
		{good, more, at(api.ErrMany, 0)},
		{with(more, 0, top+1), good, at(api.ErrMany, 0)},
		{good, with(more, 3, top+1), at(api.ErrMany, 0)},
		{more, nil, at(api.ErrMany, 0)},
		{nil, more, at(api.ErrMany, 0)},
		{make([]int, 1000), nil, at(api.ErrMany, 0)},
		{with(good, 1, top+1), more, at(api.ErrRange, 1)},
		{more, with(good, 1, top+1), at(api.ErrMany, 0)},
		{with(good, 2, -top-1), with(good, 0, top+1), at(api.ErrRange, 2)},
		{with(with(good, 2, -top-1), 1, math.MinInt), good, at(api.ErrRange, 1)},
		{good, with(good, 2, math.MaxInt), at(api.ErrRange, 2)},
		{good, with(good, 0, math.MinInt), at(api.ErrRange, 0)},
		{nil, with(good, 1, -top-1), at(api.ErrRange, 1)},
		{with(good, 1, -top-1), []int{}, at(api.ErrRange, 1)},
		{with(make([]int, half), half-1, top+1), good, at(api.ErrRange, half-1)},
	} {
		got, fault := wave.Convolve(c.a, c.b)
		tells(t, "Convolve", [][]int{c.a, c.b}, got, fault, nil, c.want)
	}
}

func TestListsAreLeftAsTheyWere(t *testing.T) {
	a, b, z := []int{1, 2, 3, 4}, []int{-5, 6}, []complex128{1, 2i, 3, 4}
	al, bl, zl := spare(a, 77), spare(b, 78), spare(z, 79)
	all := [][]int{al, {prime - 1}, al}
	rows := spare(all, []int{5})
	for _, back := range []bool{false, true} {
		wave.Whole(al, back)
		wave.Rows(rows, back)
		wave.Convolve(al, bl)
		wave.Convolve(bl, al)
		wave.Transform(zl, back)
	}
	kept(t, "a call", al, a, 77)
	kept(t, "a call", bl, b, 78)
	kept(t, "Transform", zl, z, 79)
	for i, row := range rows[:5] {
		if want := slices.Concat(all, [][]int{{5}, {5}})[i]; !slices.Equal(row, want) {
			t.Errorf("row %d is another one: %v, it was %v", i, row, want)
		}
	}
}

// scribbled is l, and what stood in it; then other numbers are written over it, and
// into the room behind it.
func scribbled[T any](l []T, x T) (was []T) {
	was = slices.Clone(l)
	for i := range cap(l) {
		l[:cap(l)][i] = x
	}
	return was
}

func TestAnswersAreNewMemory(t *testing.T) {
	one := []int{3}
	for _, l := range [][]int{one, {1, 2, 3, 4}, filled(api.MaxWave, func(i int) int { return i })} {
		was := slices.Clone(l)
		for _, back := range []bool{false, true} {
			got, _ := wave.Whole(l, back)
			first := scribbled(got, 7)
			again, fault := wave.Whole(l, back)
			tells(t, "Whole, again,", l, again, fault, first, fine)
		}
		short := l[:min(len(l), api.MaxWave/2)]
		got, _ := wave.Convolve(short, short)
		first := scribbled(got, 7)
		again, fault := wave.Convolve(short, short)
		tells(t, "Convolve, again,", l, again, fault, first, fine)
		if !slices.Equal(l, was) {
			t.Errorf("an answer shares memory with what was handed in: %v", l)
		}
	}
	rows, _ := wave.Rows([][]int{one, one, one, {1, 2}, {1, 2}}, false)
	for i, want := range [][]int{{3}, {3}, {3}, {3, prime - 1}, {3, prime - 1}} {
		if !slices.Equal(rows[i], want) {
			t.Errorf("row %d is %v, want %v", i, rows[i], want)
		}
		scribbled(rows[i], 8)
	}
	if one[0] != 3 {
		t.Errorf("Rows shares memory with what was handed in: %v", one)
	}
	for _, l := range [][]complex128{{1i}, {1, 2}, make([]complex128, api.MaxWave)} {
		was := slices.Clone(l)
		got, _, _ := wave.Transform(l, false)
		first := scribbled(got, 9)
		again, _, _ := wave.Transform(l, false)
		if !slices.Equal(again, first) || !slices.Equal(l, was) {
			t.Errorf("Transform of %v, again: %v, was %v", l, again, first)
		}
	}
}
