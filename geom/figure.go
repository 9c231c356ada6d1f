package geom

import (
	"iter"

	"enclosure/api"
	"enclosure/expan"
)

// Meets: have the way from a to b and the way from c to d a point in common?
func Meets(a, b, c, d api.Point) (bool, api.Fault) {
	if fault := unfit(a, b, c, d); fault.Code != api.OK {
		return false, fault
	}
	touch := on(a, b, c) || on(a, b, d) || on(c, d, a) || on(c, d, b)
	return touch || parts(a, b, c, d) && parts(c, d, a, b), api.Fault{}
}

// Where is 1 if p lies within the figure, 0 if on its rim, -1 if outside.
func Where(figure []api.Point, p api.Point) (int, api.Fault) {
	if fault := unfit(figure...); fault.Code != api.OK {
		return 0, fault
	}
	if fault := unfit(p); fault.Code != api.OK {
		return 0, api.Fault{Code: fault.Code, At: len(figure)}
	}
	place := -1
	for a, b := range sides(figure) {
		if on(a, b, p) {
			return 0, api.Fault{}
		}
		if crossed(a, b, p) {
			place = -place
		}
	}
	return place, api.Fault{}
}

// Area is twice the area of the figure, rounded: above 0, if it goes to the left round.
func Area(figure []api.Point, mode int) (float64, api.Fault) {
	if fault := unfit(figure...); fault.Code != api.OK {
		return 0, fault
	}
	var from, to []float64
	for a, b := range sides(figure) {
		from = append(from, a.X, -a.Y)
		to = append(to, b.Y, b.X)
	}
	return expan.Dot(from, to, mode)
}

// sides are the ways from each corner to the next one, and from the last one to the
// first.
func sides(figure []api.Point) iter.Seq2[api.Point, api.Point] {
	return func(yield func(a, b api.Point) bool) {
		for i, a := range figure {
			if !yield(a, figure[(i+1)%len(figure)]) {
				return
			}
		}
	}
}

// on: does p lie on the way from a to b, ends too?
func on(a, b, p api.Point) bool {
	return within(a.X, b.X, p.X) && within(a.Y, b.Y, p.Y) && turn(a, b, p) == 0
}

// within: does x lie from a to b, or from b to a?
func within(a, b, x float64) bool { return min(a, b) <= x && x <= max(a, b) }

// parts: does the line through a and b go between c and d?
func parts(a, b, c, d api.Point) bool { return turn(a, b, c)*turn(a, b, d) < 0 }

// crossed: does a way from p to the right cross that from a to b, on which p isn't?
// Of the ends, the one that has just the Y of p counts as one below.
func crossed(a, b, p api.Point) bool {
	if b.Y > p.Y {
		return a.Y <= p.Y && turn(a, b, p) > 0
	}
	return a.Y > p.Y && turn(a, b, p) < 0
}
