package expan

import (
	"enclosure/api"
	"enclosure/exact"
	"enclosure/nums"
	"enclosure/several"
)

// Sum is the sum of l, rounded.
func Sum(l []float64, mode int) (float64, api.Fault) {
	x, fault := read(l)
	if fault.Code != api.OK {
		return 0, fault
	}
	return rounded(nums.Total(x), mode)
}

// Dot is the sum of the products, rounded.
func Dot(a, b []float64, mode int) (float64, api.Fault) {
	x, y, fault := readBoth(a, b)
	if fault.Code != api.OK {
		return 0, fault
	}
	if len(x) != len(y) {
		return 0, api.Fault{Code: api.ErrShape}
	}
	for i, v := range y {
		x[i] = x[i].Mul(v)
	}
	return rounded(nums.Total(x), mode)
}

func rounded(v exact.Num, mode int) (float64, api.Fault) {
	x, err := v.Float(mode)
	return x, api.Fault{Code: err}
}

// Sums is Sum of each.
func Sums(l [][]float64, mode int) ([]float64, api.Fault) {
	return several.Each(l, func(one []float64) (float64, api.Fault) { return Sum(one, mode) })
}
