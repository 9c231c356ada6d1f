package disc

import (
	"slices"

	"enclosure/api"
)

// Find is numbers near the roots of a polynomial, no two of them the same.
func Find(p []complex128) ([]complex128, api.Fault) {
	if fault := faultOf(p); fault.Code != api.OK {
		return nil, fault
	}
	// So often 0 is a root; the others are sought without it.
	zeros := slices.IndexFunc(p, func(c complex128) bool { return c != 0 })
	s := search{p[zeros:], starts(p[zeros:])}
	s.settle(quick)
	s.settle(sure)
	return slices.Concat(s.near, aboutZero(s.near, zeros)), api.Fault{}
}

// search is a polynomial of which 0 is no root, and as many numbers as it has roots, no
// two the same and none 0, which are on their way to the roots.
type search struct {
	p    []complex128
	near []complex128
}

const (
	rounds = 100 // in which each number is moved once, at most
	tries  = 10  // to find a place that is nearer
)

// settle moves the numbers, reckoned by a way, as long as a nearer place is found.
func (s search) settle(by way) {
	for n, moved := 0, true; moved && n < rounds; n++ {
		moved = false
		for i, z := range s.near {
			s.near[i] = s.nearer(i, by)
			moved = moved || s.near[i] != z
		}
	}
}

// nearer is a place of which less is left to a root than of that of the number i; that
// one, if none is found.
func (s search) nearer(i int, by way) complex128 {
	here := s.view(i, s.near[i], by)
	best := here
	try := func(step complex128) bool {
		z := here.after(step)
		if !s.free(z) {
			return false
		}
		there := s.view(i, z, by)
		if !(there.left < best.left-0x1p-12) { // less than that isn't worth a step
			return false
		}
		best = there
		return true
	}
	step := here.step
	for n := 1; !try(step); n++ {
		if n == tries {
			return here.z
		}
		step *= 0.4 + 0.3i // half as long, and turned: near a saddle other ways lead down
	}
	// Where a step brings little, several roots lie at one place, farther on.
	if best.left > here.left-2 {
		for step *= 2; try(step); step *= 2 {
		}
	}
	return best.z
}

// free: may a number be moved to z?
func (s search) free(z complex128) bool {
	return finite(z) && z != 0 && !slices.Contains(s.near, z)
}
