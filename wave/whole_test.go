package wave_test

import (
	"math"
	"math/big"
	"reflect"
	"slices"
	"sync"
	"testing"

	"enclosure/api"
	"enclosure/wave"
)

const prime = 998244353

// defined is Whole by the chapter's words.
func defined(l []int, back bool) []int {
	n, p := int64(len(l)), big.NewInt(prime)
	power := func(a *big.Int, e int64) *big.Int { return new(big.Int).Exp(a, big.NewInt(e), p) }
	w := power(big.NewInt(3), (prime-1)/n)
	if back {
		w.ModInverse(w, p)
	}
	row := make([]int, n)
	for k := range row {
		sum := new(big.Int)
		for i, x := range l {
			sum.Add(sum, new(big.Int).Mul(big.NewInt(int64(x)), power(w, int64(i*k))))
		}
		if back {
			sum.Mul(sum, new(big.Int).ModInverse(big.NewInt(n), p))
		}
		row[k] = int(sum.Mod(sum, p).Int64())
	}
	return row
}

// rests are rows of all lengths, of several kinds each.
func rests(seed uint64, times int) [][]int {
	next := stream(seed)
	makers := []func(int) int{
		func(i int) int { return i },
		func(int) int { return prime - 1 },
		func(int) int { return 0 },
		func(int) int { return int(next() % 2) },
		func(int) int { return int(next()%2) * (prime - 1) },
		func(int) int { return int(next() % prime) },
		func(int) int { return prime - 1 - int(next()%3) },
	}
	var l [][]int
	for _, n := range lengths {
		for _, made := range makers {
			for range times {
				l = append(l, filled(n, made))
			}
		}
		for range times {
			l = append(l, with(make([]int, n), int(next()%uint64(n)), 1))
		}
	}
	return l
}

func TestWhole(t *testing.T) {
	for _, c := range []struct {
		l    []int
		back bool
		want []int
	}{
		{[]int{1, 2, 3, 4}, false, []int{10, 173167434, 998244351, 825076915}},
		{[]int{10, 173167434, 998244351, 825076915}, true, []int{1, 2, 3, 4}},
		{[]int{5}, false, []int{5}},
		{[]int{5}, true, []int{5}},
		{[]int{prime - 1}, false, []int{prime - 1}},
		{[]int{1, 1}, false, []int{2, 0}},
		{[]int{0, 1}, false, []int{1, prime - 1}},
		{[]int{prime - 1, prime - 1}, false, []int{prime - 2, 0}},
		{[]int{2, 0}, true, []int{1, 1}},
		{[]int{1, 0}, true, []int{prime/2 + 1, prime/2 + 1}},
		{[]int{0, 0, 0, 0}, false, []int{0, 0, 0, 0}},
		{[]int{0, 1, 0, 0}, false, []int{1, 911660635, prime - 1, 86583718}},
		{[]int{0, 4, 0, 0}, true, []int{1, 86583718, prime - 1, 911660635}},
	} {
		got, fault := wave.Whole(c.l, c.back)
		tells(t, "Whole", c.l, got, fault, c.want, fine)
	}
}

func TestWholeIsAsDefined(t *testing.T) {
	for _, l := range rests(1, 4) {
		for _, back := range []bool{false, true} {
			got, fault := wave.Whole(l, back)
			tells(t, "Whole", l, got, fault, defined(l, back), fine)
			again, fault := wave.Whole(got, !back)
			tells(t, "Whole of Whole", l, again, fault, l, fine)
		}
	}
}

func TestWrongRows(t *testing.T) {
	for _, n := range noLengths {
		for _, l := range [][]int{make([]int, n), filled(n, func(int) int { return -1 })} {
			for _, back := range []bool{false, true} {
				got, fault := wave.Whole(l, back)
				tells(t, "Whole", l, got, fault, nil, at(api.ErrShape, 0))
			}
		}
	}
	got, fault := wave.Whole(nil, false)
	tells(t, "Whole", nil, got, fault, nil, at(api.ErrShape, 0))
	for _, n := range lengths {
		for i := range n {
			for _, x := range []int{-1, prime, prime + 1, -prime, math.MaxInt, math.MinInt} {
				l := with(with(make([]int, n), n-1, -7), i, x)
				for _, back := range []bool{false, true} {
					got, fault := wave.Whole(l, back)
					tells(t, "Whole", l, got, fault, nil, at(api.ErrRange, i))
				}
			}
		}
	}
}

func TestRows(t *testing.T) {
	all := rests(2, 1)
	for _, n := range []int{0, 1, 2, 7, 8, 9, len(all)} {
		for _, back := range []bool{false, true} {
			var want [][]int
			for _, l := range all[:n] {
				want = append(want, defined(l, back))
			}
			got, fault := wave.Rows(all[:n], back)
			if fault != fine || !slices.EqualFunc(got, want, slices.Equal) {
				t.Errorf("Rows of %d: %v %v, want %v", n, got, fault, want)
			}
		}
	}
	full := slices.Repeat([][]int{{1, 1}}, api.MaxPoints)
	got, fault := wave.Rows(full, false)
	if fault != fine || !slices.EqualFunc(got, slices.Repeat([][]int{{2, 0}}, api.MaxPoints), slices.Equal) {
		t.Errorf("Rows of as many as there may be: %v %v", got, fault)
	}
}

func TestWrongOnesOfRows(t *testing.T) {
	good, short, high := []int{1, 2}, []int{1, 2, 3}, []int{5, 4, 3, -1}
	full := slices.Repeat([][]int{good}, api.MaxPoints)
	many := slices.Repeat([][]int{high}, api.MaxPoints+1)
	for _, c := range []struct {
		l    [][]int
		want api.Fault
	}{
		{many, at(api.ErrMany, 0)},
		{slices.Concat(many, many), at(api.ErrMany, 0)},
		{[][]int{nil}, at(api.ErrShape, 0)},
		{[][]int{good, {}, high}, at(api.ErrShape, 1)},
		{[][]int{good, high, short}, at(api.ErrRange, 1)},
		{[][]int{good, good, short, high}, at(api.ErrShape, 2)},
		{[][]int{good, good, good, high, nil}, at(api.ErrRange, 3)},
		{with(full, 59, high), at(api.ErrRange, 59)},
		{with(with(full, 59, high), 58, short), at(api.ErrShape, 58)},
		{with(with(full, 0, high), 1, short), at(api.ErrRange, 0)},
	} {
		for _, back := range []bool{false, true} {
			if got, fault := wave.Rows(c.l, back); got != nil || fault != c.want {
				t.Errorf("Rows of %v: %v %v, want %v", c.l, got, fault, c.want)
			}
		}
	}
}

// TestRowsAtATime: what is answered doesn't hang on how the work is shared out, nor
// on who else asks; and nothing is read any more when the answer is there.
func TestRowsAtATime(t *testing.T) {
	next := stream(3)
	all := filled(api.MaxPoints, func(i int) []int {
		return filled(1<<(i%7), func(int) int { return int(next() % prime) })
	})
	want, _ := wave.Rows(all, true)
	var callers sync.WaitGroup
	for range 8 {
		callers.Go(func() {
			for range 20 {
				if got, fault := wave.Rows(all, true); fault != fine || !reflect.DeepEqual(got, want) {
					t.Errorf("Rows: another answer, %v", fault)
				}
			}
		})
	}
	callers.Wait()
	for i := range 50 {
		own := with(with(all, 30+i%30, nil), 29-i%30, []int{-1})
		if got, fault := wave.Rows(own, false); got != nil || fault != at(api.ErrRange, 29-i%30) {
			t.Errorf("Rows: %v %v, want a fault at %d", got, fault, 29-i%30)
		}
		clear(own)
	}
}
