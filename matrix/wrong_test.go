package matrix_test

import (
	"enclosure/api"
)

// bad is a matrix, and what is wrong with it.
type bad struct {
	a   rows
	err api.Fault
}

// wrongs are no matrices.
func wrongs() []bad {
	seven := diagonal(1, 2, 3, 4, 5, 6, 7)
	l := []bad{
		{nil, fault(api.ErrMany, 0)},
		{rows{}, fault(api.ErrMany, 0)},
		{seven, fault(api.ErrMany, 0)},
		{make(rows, 7), fault(api.ErrMany, 0)}, // and no entries
		{make(rows, 5000), fault(api.ErrMany, 0)},
		{append(rows{{nan}}, seven[1:]...), fault(api.ErrMany, 0)},

		{rows{nil}, fault(api.ErrShape, 0)},
		{rows{{}}, fault(api.ErrShape, 0)},
		{rows{{1, 2}}, fault(api.ErrShape, 0)},
		{rows{{1}, {2}}, fault(api.ErrShape, 0)},
		{rows{{1, 2}, {3}}, fault(api.ErrShape, 1)},
		{rows{{1, 2}, {3, 4, 5}}, fault(api.ErrShape, 1)},
		{rows{{1, 2, 3}, {4, 5, 6}}, fault(api.ErrShape, 0)},
		{rows{{1, 2}, {3, 4}, {5, 6}}, fault(api.ErrShape, 0)},
		{rows{{1, 2, 3}, {4, 5, 6}, nil}, fault(api.ErrShape, 2)},
		{rows{{1, 2, 3}, {4, 5}, {6}}, fault(api.ErrShape, 1)},
		{make(rows, 6), fault(api.ErrShape, 0)},
		{rows{{nan, 2}, {3}}, fault(api.ErrShape, 1)}, // shapes are told ahead
		{rows{{nan}, {1, 2}}, fault(api.ErrShape, 0)},
		{rows{{nan, nan}, {nan, nan, nan}}, fault(api.ErrShape, 1)},
	}
	for _, x := range notFinite {
		l = append(l,
			bad{rows{{x}}, fault(api.ErrNaN, 0)},
			bad{rows{{1, x}, {3, 4}}, fault(api.ErrNaN, 0)},
			bad{rows{{1, 2}, {x, 4}}, fault(api.ErrNaN, 1)},
			bad{rows{{1, 2}, {3, x}}, fault(api.ErrNaN, 1)},
			bad{rows{{1, 2, 3}, {3, 1, x}, {x, x, x}}, fault(api.ErrNaN, 1)},
			bad{rows{{1, 2, 3}, {5, 1, 6}, {1, x, 8}}, fault(api.ErrNaN, 2)},
			bad{diagonal(1, 2, 3, 4, 5, x), fault(api.ErrNaN, 5)})
	}
	return l
}
