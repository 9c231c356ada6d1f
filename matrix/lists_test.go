package matrix_test

import (
	"reflect"
	"slices"
	"testing"

	"enclosure/api"
	"enclosure/matrix"
)

// roomy is a with spare room behind it and behind each row, in which something stands.
func roomy(a rows) rows {
	var m rows
	for _, row := range a {
		m = append(m, spare(row, 77))
	}
	return spare(m, []float64{5, 6})
}

// untouched fails unless m is what roomy made of a.
func untouched(t *testing.T, what string, m, a rows) {
	t.Helper()
	kept(t, what, m, a, []float64{5, 6})
	for i := range a {
		kept(t, what, m[i], a[i], 77)
	}
}

func TestListsAreLeftAsTheyWere(t *testing.T) {
	a, b := rows{{2, 1, 0}, {1, 3, 0.1}, {0, 0.1, 5}}, []float64{1, 0.7, 3}
	r, x, e := rows{{0.6, -0.2, 0}, {-0.2, 0.4, 0}, {0, 0, 0.2}}, []float64{0.5, 0.1, 0.6}, []float64{1, 2, 3}
	am, rm, bl, xl, el := roomy(a), roomy(r), spare(b, 7), spare(x, 8), spare(e, 9)
	for _, c := range []struct {
		what string
		call func() api.Fault
	}{
		{"Det", func() api.Fault { _, err := matrix.Det(am, api.Near); return err }},
		{"Solve", func() api.Fault { _, err := matrix.Solve(am, bl); return err }},
		{"Inverse", func() api.Fault { _, err := matrix.Inverse(am); return err }},
		{"Proves", func() api.Fault { _, err := matrix.Proves(am, bl, rm, xl, el); return err }},
		{"Below", func() api.Fault { _, err := matrix.Below(am, 3); return err }},
		{"Stretches", func() api.Fault { _, err := matrix.Stretches(am); return err }},
		{"Near", func() api.Fault { _, err := matrix.Near(am, bl, 3); return err }},
	} {
		if err := c.call(); err != fine {
			t.Errorf("%s: %v", c.what, err)
		}
		untouched(t, c.what, am, a)
		untouched(t, c.what, rm, r)
		kept(t, c.what, bl, b, 7)
		kept(t, c.what, xl, x, 8)
		kept(t, c.what, el, e, 9)
	}
}

func TestAnswersAreNewMemory(t *testing.T) {
	a, b := rows{{2, 1}, {1, 3}}, []float64{3, 5}
	m, _ := matrix.Inverse(a)
	was := copied(m)
	again, _ := matrix.Inverse(a)
	for i := range m {
		again[i][0], again[i][1] = 7, 8
		_ = append(m[i], 9) // into the room behind the row, if there is some
	}
	if !reflect.DeepEqual(m, was) {
		t.Errorf("rows of Inverse share memory: %v, was %v", m, was)
	}
	m[0][0] = 11
	if a[0][0] != 2 || m[1][0] != was[1][0] {
		t.Errorf("Inverse shares memory with what was handed in: %v", a)
	}
	l, _ := matrix.Solve(a, b)
	first := slices.Clone(l)
	more, _ := matrix.Solve(a, b)
	more[0] = one(9)
	s, _ := matrix.Stretches(a)
	second := slices.Clone(s)
	more, _ = matrix.Stretches(a)
	more[0] = one(9)
	if !slices.Equal(l, first) || !slices.Equal(s, second) {
		t.Errorf("two answers share memory: %v %v", l, s)
	}
}
