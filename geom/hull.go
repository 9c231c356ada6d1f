package geom

import (
	"cmp"
	"slices"

	"enclosure/api"
)

// Hull is the corners of the least figure without dents in which all points lie.
func Hull(l []api.Point) ([]api.Point, api.Fault) {
	if fault := unfit(l...); fault.Code != api.OK {
		return nil, fault
	}
	points := slices.Compact(slices.SortedFunc(slices.Values(l), order))
	if len(points) < 2 {
		return points, api.Fault{}
	}
	below := bent(points)
	slices.Reverse(points)
	above := bent(points)
	// The last one of each is the first one of the other.
	return append(below[:len(below)-1], above[:len(above)-1]...), api.Fault{}
}

// order has the least X first, of several the least Y.
func order(a, b api.Point) int { return cmp.Or(cmp.Compare(a.X, b.X), cmp.Compare(a.Y, b.Y)) }

// bent is the way along points, which stand in order or in the opposite one,
// without those where it doesn't turn left.
func bent(points []api.Point) []api.Point {
	var l []api.Point
	for _, p := range points {
		for len(l) > 1 && turn(l[len(l)-2], l[len(l)-1], p) != 1 {
			l = l[:len(l)-1]
		}
		l = append(l, p)
	}
	return l
}
