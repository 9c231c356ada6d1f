package taylor_test

import (
	"slices"
	"testing"

	"enclosure/api"
	"enclosure/taylor"
)

// roomy is m with spare room behind its entries, in which something stands.
func roomy(m taylor.Model) taylor.Model {
	return taylor.Model{C: append(slices.Clone(m.C), 77, 78)[:len(m.C)], Rest: m.Rest}
}

// untouched fails unless m is what roomy made of was.
func untouched(t *testing.T, what string, m, was taylor.Model) {
	t.Helper()
	n := len(was.C)
	if all := m.C[:n+2]; !slices.Equal(all[:n], was.C) || all[n] != 77 || all[n+1] != 78 || m.Rest != was.Rest {
		t.Errorf("%s changed what was handed in: %v, was %v", what, all, was)
	}
}

func TestModelsAreLeftAsTheyWere(t *testing.T) {
	for _, pair := range [][2]taylor.Model{
		{model(0.5, 1, 2, 3), model(0.25, 4)},
		{model(0.5), model(0, 0.1, 0.2)},
		{model(0, slices.Repeat([]float64{0.1}, 13)...), model(1, slices.Repeat([]float64{-0.7}, 13)...)},
		{model(0, most, most), model(0, 1, most)}, // of which most is an error
	} {
		a, b := roomy(pair[0]), roomy(pair[1])
		for what, call := range map[string]func(){
			"Check": func() { taylor.Check(a) },
			"Add":   func() { taylor.Add(a, b); taylor.Add(b, a) },
			"Mul":   func() { taylor.Mul(a, b, 3); taylor.Mul(b, a, 12) },
			"Sum":   func() { taylor.Sum(a) },
			"Range": func() { taylor.Range(a) },
			"At":    func() { taylor.At(a, 0.1) },
		} {
			call()
			untouched(t, what, a, pair[0])
			untouched(t, what, b, pair[1])
		}
	}
}

func TestAnswersAreNewMemory(t *testing.T) {
	a, b, zero := model(0.5, 1, 2, 3), model(0.25, 4, 5), taylor.Model{}
	for what, call := range map[string]func() (taylor.Model, api.Fault){
		"Add":      func() (taylor.Model, api.Fault) { return taylor.Add(a, b) },
		"Add of 0": func() (taylor.Model, api.Fault) { return taylor.Add(a, zero) },
		"0 and":    func() (taylor.Model, api.Fault) { return taylor.Add(zero, a) },
		"Mul":      func() (taylor.Model, api.Fault) { return taylor.Mul(a, b, 2) },
		"Mul by 1": func() (taylor.Model, api.Fault) { return taylor.Mul(a, model(0, 1), 12) },
		"Sum":      func() (taylor.Model, api.Fault) { return taylor.Sum(a) },
	} {
		m, err := call()
		was := slices.Clone(m.C)
		m.C = append(m.C[:cap(m.C)], 9)
		for i := range m.C {
			m.C[i] = nan
		}
		again, code := call()
		if err != fine || code != fine || !slices.Equal(again.C, was) {
			t.Errorf("%s: once %v, then %v", what, was, again)
		}
		if !slices.Equal(a.C, []float64{1, 2, 3}) || !slices.Equal(b.C, []float64{4, 5}) {
			t.Errorf("%s shares memory with what was handed in: %v %v", what, a, b)
		}
	}
}
