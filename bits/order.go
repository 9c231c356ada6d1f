package bits

import (
	"math"
)

// Next is the least float above x.
func Next(x float64) float64 {
	b := math.Float64bits(x)
	switch {
	case math.IsNaN(x) || math.IsInf(x, 1):
		return x
	case x == 0:
		return math.SmallestNonzeroFloat64
	case x > 0:
		return math.Float64frombits(b + 1)
	}
	return math.Float64frombits(b - 1)
}

// Prev is the greatest float below x.
func Prev(x float64) float64 { return -Next(-x) }

// Ulp is how far floats of x's exponent stand from each other.
func Ulp(x float64) float64 {
	f := double()
	_, exp, _ := Split(x)
	if exp == greatest(f) {
		return 0
	}
	return Make(1, max(exp, 1)-less(f)-f.Frac)
}

// Key is a whole number for x: keys stand as floats do, -0 right ahead of 0.
func Key(x float64) int {
	if math.IsNaN(x) {
		return math.MaxInt
	}
	b := math.Float64bits(x)
	if math.Signbit(x) {
		return -1 - int(b&^sign(double()))
	}
	return int(b)
}
