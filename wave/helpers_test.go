package wave_test

import (
	"math"
	"math/big"
	"slices"
	"testing"

	"enclosure/api"
)

var inf, nan, least, most = math.Inf(1), math.NaN(), math.SmallestNonzeroFloat64, math.MaxFloat64

// fine is no fault.
var fine = api.Fault{}

func at(code api.Errno, i int) api.Fault { return api.Fault{Code: code, At: i} }

// lengths are those of all rows.
var lengths = []int{1, 2, 4, 8, 16, 32, 64}

// noLengths are those of none.
var noLengths = []int{0, 3, 5, 6, 7, 9, 12, 31, 33, 63, 65, 96, 127, 128, 256, 4096}

// stream answers words that are spread over all bits, the same ones in each run.
func stream(seed uint64) func() uint64 {
	return func() uint64 {
		seed += 0x9e3779b97f4a7c15
		z := seed
		z = (z ^ z>>30) * 0xbf58476d1ce4e5b9
		z = (z ^ z>>27) * 0x94d049bb133111eb
		return z ^ z>>31
	}
}

// filled is a list of n, each of them made.
func filled[T any](n int, made func(i int) T) []T {
	l := make([]T, n)
	for i := range l {
		l[i] = made(i)
	}
	return l
}

// with is l, but x at the place i.
func with[T any](l []T, i int, x T) []T {
	l = slices.Clone(l)
	l[i] = x
	return l
}

// spare is l with spare room behind it, in which x stands.
func spare[T any](l []T, x T) []T {
	return slices.Concat(l, []T{x, x})[:len(l)]
}

// kept fails unless l, and what stands in the spare room behind it, is what spare made of was.
func kept[T comparable](t *testing.T, what string, l, was []T, x T) {
	t.Helper()
	if got, want := l[:len(was)+2], slices.Concat(was, []T{x, x}); !slices.Equal(got, want) {
		t.Errorf("%s changed what was handed in: %v, it was %v", what, got, want)
	}
}

// tells fails unless an answer is just want, and beside a fault nothing.
func tells(t *testing.T, what string, of any, got []int, fault api.Fault, want []int, code api.Fault) {
	t.Helper()
	if fault != code || !slices.Equal(got, want) || fault != fine && got != nil {
		t.Errorf("%s of %v: %v %v, want %v %v", what, of, got, fault, want, code)
	}
}

// Below, what is big is a whole number of so many parts of 1, where need be.

const (
	rootParts  = 300  // 2 to the power of this is 1, of roots
	floatParts = 1074 // of floats: each of them is whole
)

func shifted(n int64, by uint) *big.Int { return new(big.Int).Lsh(big.NewInt(n), by) }

// arctangent is that of 1 / n, in parts, by its row.
func arctangent(n int64, parts uint) *big.Int {
	sum, power := new(big.Int), new(big.Int).Quo(shifted(1, parts), big.NewInt(n))
	for k := int64(1); power.Sign() != 0; k += 2 {
		term := new(big.Int).Quo(power, big.NewInt(k))
		if k%4 == 3 {
			term.Neg(term)
		}
		sum.Add(sum, term)
		power.Quo(power, big.NewInt(n*n))
	}
	return sum
}

// turn is 2 pi, in parts, by Machin's way.
func turn(parts uint) *big.Int {
	a, b := arctangent(5, parts), arctangent(239, parts)
	a.Mul(a, big.NewInt(32))
	return a.Sub(a, b.Mul(b, big.NewInt(8)))
}

// roots are e to the power of 2 pi i k / 64, of each k the real and the imaginary
// part, by the row of what e is the base of; less than 2^-290 off.
var roots = func() [64][2]*big.Int {
	const parts = rootParts + 40
	around := turn(parts)
	var all [64][2]*big.Int
	for k := range all {
		angle := new(big.Int).Mul(around, big.NewInt(int64(k)))
		angle.Rsh(angle, 6)
		term, sums := shifted(1, parts), [2]*big.Int{new(big.Int), new(big.Int)}
		for n := int64(0); term.Sign() != 0; n++ {
			if n%4 < 2 {
				sums[n%2].Add(sums[n%2], term)
			} else {
				sums[n%2].Sub(sums[n%2], term)
			}
			term = new(big.Int).Mul(term, angle)
			term.Rsh(term, parts).Quo(term, big.NewInt(n+1))
		}
		all[k] = [2]*big.Int{sums[0].Rsh(sums[0], 40), sums[1].Rsh(sums[1], 40)}
	}
	return all
}()

// rat is just what x is.
func rat(x float64) *big.Rat { return new(big.Rat).SetFloat64(x) }

// inParts is just what x is, in parts.
func inParts(x float64, parts uint) *big.Int {
	v := rat(x)
	v.Mul(v, new(big.Rat).SetInt(shifted(1, parts)))
	if !v.IsInt() {
		panic("no whole number of parts")
	}
	return v.Num()
}
