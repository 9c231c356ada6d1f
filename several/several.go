// Package several has work on the parts of a list, several of them at a time.
package several

import (
	"sync"
	"sync/atomic"

	"enclosure/api"
)

// workers is how many parts are worked on at a time, at most.
const workers = 8

// Each is what do makes of each part of l; ErrMany if there are more than
// api.MaxPoints; the Code of the first part that has a fault, At its number.
func Each[In, Out any](l []In, do func(In) (Out, api.Fault)) ([]Out, api.Fault) {
	if len(l) > api.MaxPoints {
		return nil, api.Fault{Code: api.ErrMany}
	}
	made := make([]Out, len(l))
	faults := make([]api.Fault, len(l))
	share(len(l), func(i int) { made[i], faults[i] = do(l[i]) })
	for i, fault := range faults {
		if fault.Code != api.OK {
			return nil, api.Fault{Code: fault.Code, At: i}
		}
	}
	return made, api.Fault{}
}

// share does work with all numbers below n, several at a time, and is back when all
// of it is done.
func share(n int, work func(i int)) {
	var taken atomic.Int64 // how many numbers are given out, or asked for in vain
	var busy sync.WaitGroup
	for range min(n, workers) {
		busy.Add(1)
		go func() {
			defer busy.Done()
			for i := int(taken.Add(1)) - 1; i < n; i = int(taken.Add(1)) - 1 {
				work(i)
			}
		}()
	}
	busy.Wait()
}
