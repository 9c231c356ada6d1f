package geom

import (
	"enclosure/api"
	"enclosure/exact"
	"enclosure/nums"
)

// step is how far one point lies from another, exactly.
type step struct{ x, y exact.Num }

// between is the step from a to b, which are finite.
func between(a, b api.Point) step { return step{less(b.X, a.X), less(b.Y, a.Y)} }

// less is just x - y.
func less(x, y float64) exact.Num { return nums.Just(x).Sub(nums.Just(y)) }

// cross is above 0 where q turns left of p.
func (p step) cross(q step) exact.Num { return p.x.Mul(q.y).Sub(p.y.Mul(q.x)) }

func (p step) norm() exact.Num { return p.x.Mul(p.x).Add(p.y.Mul(p.y)) }

// turn is Turn of points that are finite.
func turn(a, b, c api.Point) int { return between(a, b).cross(between(a, c)).Sign() }
