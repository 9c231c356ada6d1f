package taylor_test

import (
	"math"
	"slices"
	"testing"

	"enclosure/api"
	"enclosure/taylor"
)

// bad is no model, and what is wrong with it.
type bad struct {
	m   taylor.Model
	err api.Fault
}

func wrongs() []bad {
	ones := slices.Repeat([]float64{1}, 13)
	l := []bad{
		{model(0, make([]float64, 14)...), fault(api.ErrMany, 0)},
		{model(nan, append([]float64{nan}, ones...)...), fault(api.ErrMany, 0)},
		{model(-1, make([]float64, 5000)...), fault(api.ErrMany, 0)},
		{model(-1), fault(api.ErrRange, 0)},
		{model(-least), fault(api.ErrRange, 0)},
		{model(-most, 1), fault(api.ErrRange, 1)},
		{model(-1, 1, 2, 3), fault(api.ErrRange, 3)},
		{model(-1, ones...), fault(api.ErrRange, 13)},
	}
	for _, x := range []float64{nan, inf, -inf} {
		l = append(l,
			bad{model(x), fault(api.ErrNaN, 0)},
			bad{model(x, 1, 2), fault(api.ErrNaN, 2)},
			bad{model(x, ones...), fault(api.ErrNaN, 13)},
			bad{model(0, x), fault(api.ErrNaN, 0)},
			bad{model(-1, 1, x, 3), fault(api.ErrNaN, 1)}, // told ahead of the rest
			bad{model(x, 1, 2, x, x), fault(api.ErrNaN, 2)},
			bad{model(0, append(slices.Clone(ones[:12]), x)...), fault(api.ErrNaN, 12)})
	}
	return l
}

func TestCheck(t *testing.T) {
	for _, w := range wrongs() {
		if err := taylor.Check(w.m); err != w.err {
			t.Errorf("Check of %v: %v, want %v", w.m, err, w.err)
		}
	}
	for _, m := range append(models(1, 1), model(minus), model(minus, minus), model(most, most, -most), taylor.Model{C: []float64{}}) {
		if err := taylor.Check(m); err != fine {
			t.Errorf("Check of %v: %v", m, err)
		}
	}
}

func TestWrongModels(t *testing.T) {
	good := model(0.5, 1, 2)
	for _, w := range wrongs() {
		m, err := taylor.Sum(w.m)
		told(t, "Sum", w.m, m, err, taylor.Model{}, w.err)
		s, err := taylor.Range(w.m)
		spanned(t, "Range", w.m, s, err, api.Span{}, w.err)
		for _, x := range []float64{0, 2, nan} { // what is wrong with t is told behind
			s, err = taylor.At(w.m, x)
			spanned(t, "At", w.m, s, err, api.Span{}, w.err)
		}
		m, err = taylor.Add(w.m, good)
		told(t, "Add", w.m, m, err, taylor.Model{}, w.err)
		m, err = taylor.Add(good, w.m)
		told(t, "Add", w.m, m, err, taylor.Model{}, w.err)
		for _, degree := range []int{0, 12, -1, 13} { // likewise the degree
			m, err = taylor.Mul(w.m, good, degree)
			told(t, "Mul", w.m, m, err, taylor.Model{}, w.err)
			m, err = taylor.Mul(good, w.m, degree)
			told(t, "Mul", w.m, m, err, taylor.Model{}, w.err)
		}
		for _, other := range wrongs() {
			m, err = taylor.Add(w.m, other.m)
			told(t, "Add", w.m, m, err, taylor.Model{}, w.err)
			m, err = taylor.Mul(w.m, other.m, 3)
			told(t, "Mul", w.m, m, err, taylor.Model{}, w.err)
		}
	}
}

func TestWrongDegrees(t *testing.T) {
	for _, degree := range []int{-1, 13, 14, 1000, math.MaxInt, math.MinInt} {
		for _, m := range []taylor.Model{{}, model(1, 2, 3), model(most, most)} {
			got, err := taylor.Mul(m, m, degree)
			told(t, "Mul", []any{m, degree}, got, err, taylor.Model{}, fault(api.ErrMany, 0))
		}
	}
}

func TestAtOutside(t *testing.T) {
	for _, x := range []float64{nan, inf, -inf, 2, -2, 1 + 0x1p-52, -1 - 0x1p-52, most, -most} {
		for _, m := range []taylor.Model{{}, model(1, 2, 3), model(most, most)} {
			s, err := taylor.At(m, x)
			spanned(t, "At", []any{m, x}, s, err, api.Span{}, fault(api.ErrRange, 0))
		}
	}
}
