package expan

import (
	"sync"
	"sync/atomic"

	"enclosure/api"
	"enclosure/exact"
)

// workers is how many lists are worked on at a time, at most.
const workers = 8

// Sum is the sum of l, rounded.
func Sum(l []float64, mode int) (float64, api.Fault) {
	x, fault := read(l)
	if fault.Code != api.OK {
		return 0, fault
	}
	return rounded(total(x), mode)
}

// Dot is the sum of the products, rounded.
func Dot(a, b []float64, mode int) (float64, api.Fault) {
	x, y, fault := readBoth(a, b)
	if fault.Code != api.OK {
		return 0, fault
	}
	if len(x) != len(y) {
		return 0, api.Fault{Code: api.ErrShape}
	}
	for i, v := range y {
		x[i] = x[i].Mul(v)
	}
	return rounded(total(x), mode)
}

func rounded(v exact.Num, mode int) (float64, api.Fault) {
	x, err := v.Float(mode)
	return x, api.Fault{Code: err}
}

// Sums is Sum of each.
func Sums(l [][]float64, mode int) ([]float64, api.Fault) {
	if len(l) > api.MaxPoints {
		return nil, api.Fault{Code: api.ErrMany}
	}
	sums := make([]float64, len(l))
	faults := make([]api.Fault, len(l))
	each(len(l), func(i int) { sums[i], faults[i] = Sum(l[i], mode) })
	for i, fault := range faults {
		if fault.Code != api.OK {
			return nil, api.Fault{Code: fault.Code, At: i}
		}
	}
	return sums, api.Fault{}
}

// each does work with all numbers below n, several at a time, and is back when all
// of it is done.
func each(n int, work func(i int)) {
	var taken atomic.Int64 // how many numbers are given out, or asked for in vain
	var busy sync.WaitGroup
	for range min(n, workers) {
		busy.Add(1)
		go func() {
			defer busy.Done()
			for i := int(taken.Add(1)) - 1; i < n; i = int(taken.Add(1)) - 1 {
				work(i)
			}
		}()
	}
	busy.Wait()
}
