package several_test

import (
	"slices"
	"strconv"
	"sync/atomic"
	"testing"
	"time"

	"enclosure/api"
	"enclosure/several"
)

// numbers are 0 to n - 1.
func numbers(n int) []int {
	l := make([]int, n)
	for i := range l {
		l[i] = i
	}
	return l
}

// told is a number as a text; with a fault, if it is among wrong.
func told(wrong map[int]api.Errno) func(int) (string, api.Fault) {
	return func(n int) (string, api.Fault) {
		return strconv.Itoa(n), api.Fault{Code: wrong[n], At: 1000 + n}
	}
}

func TestEach(t *testing.T) {
	for n := range api.MaxPoints + 1 {
		var want []string
		for i := range n {
			want = append(want, strconv.Itoa(i))
		}
		got, fault := several.Each(numbers(n), told(nil))
		if !slices.Equal(got, want) || fault != (api.Fault{}) {
			t.Errorf("%d numbers: %v %v", n, got, fault)
		}
	}
	if got, fault := several.Each(nil, told(nil)); len(got) != 0 || fault != (api.Fault{}) {
		t.Errorf("no numbers: %v %v", got, fault)
	}
}

func TestEachTellsOfTheFirstFault(t *testing.T) {
	for _, c := range []struct {
		n     int
		wrong map[int]api.Errno
		want  api.Fault
	}{
		{1, map[int]api.Errno{0: api.ErrNaN}, api.Fault{Code: api.ErrNaN}},
		{5, map[int]api.Errno{3: api.ErrNaN, 4: api.ErrMany}, api.Fault{Code: api.ErrNaN, At: 3}},
		{api.MaxPoints, map[int]api.Errno{59: api.ErrZero}, api.Fault{Code: api.ErrZero, At: 59}},
		{api.MaxPoints, map[int]api.Errno{58: api.ErrShape, 59: api.ErrZero, 20: api.ErrForm}, api.Fault{Code: api.ErrForm, At: 20}},
		{api.MaxPoints + 1, map[int]api.Errno{0: api.ErrNaN}, api.Fault{Code: api.ErrMany}},
		{1000, nil, api.Fault{Code: api.ErrMany}},
	} {
		for range 20 {
			got, fault := several.Each(numbers(c.n), told(c.wrong))
			if got != nil || fault != c.want {
				t.Errorf("%d numbers, %v: %v %v, want %v", c.n, c.wrong, got, fault, c.want)
			}
		}
	}
}

// TestEachDoesAllOnceAndAtATime: two parts can wait for each other, each one is worked
// on just once, and none of them any more when the answer is there.
func TestEachDoesAllOnceAndAtATime(t *testing.T) {
	meet := make(chan int)
	var begun, ended atomic.Int64
	_, fault := several.Each(numbers(40), func(n int) (int, api.Fault) {
		begun.Add(1)
		defer ended.Add(1)
		if n > 1 {
			return 0, api.Fault{}
		}
		select {
		case meet <- n:
		case <-meet:
		case <-time.After(10 * time.Second):
			return 0, api.Fault{Code: api.ErrNone}
		}
		return 0, api.Fault{}
	})
	if fault != (api.Fault{}) || begun.Load() != 40 || ended.Load() != 40 {
		t.Errorf("%v, %d parts begun, %d ended", fault, begun.Load(), ended.Load())
	}
}
