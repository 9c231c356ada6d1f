package taylor_test

import (
	"slices"
	"testing"

	"enclosure/api"
	"enclosure/taylor"
)

const bit = 0x1p-52 // from 1 to the next float

func TestAdd(t *testing.T) {
	high := slices.Repeat([]float64{0}, 12)
	for _, c := range []struct {
		a, b, want taylor.Model
		err        api.Fault
	}{
		{model(0), model(0), model(0), fine},
		{taylor.Model{C: []float64{}}, model(0.25), model(0.25), fine},
		{model(0.5, 1, 1), model(0, 1, -1), model(0.5, 2, 0), fine}, // as long, though the last entry is 0
		{model(0.5, 1), model(0.25, 1, 2, 3), model(0.75, 2, 2, 3), fine},
		{model(0, 1, 2, 3), model(1), model(1, 1, 2, 3), fine},
		{model(0, minus), model(minus, 0), model(0, 0), fine},
		{model(0, append(high, 1)...), model(1, append(high, 2)...), model(1, append(high, 3)...), fine},
		// What is rounded goes to the rest.
		{model(0, 1), model(0, 0x1p-53), model(0x1p-53, 1), fine},
		{model(0, 1+bit), model(0, 0x1p-53), model(0x1p-53, 1+2*bit), fine},
		{model(0, 1), model(0, least), model(least, 1), fine},
		{model(0, 0, -1), model(0, 0, -least), model(least, 0, -1), fine},
		{model(0, 1, 1), model(0, least, 0x1p-53), model(0x1p-53+0x1p-105, 1, 1), fine}, // both, and up
		{model(0, 1, 1), model(0, least, -least), model(2*least, 1, 1), fine},
		{model(1, 1), model(0, least), model(1+bit, 1), fine},
		{model(1), model(least), model(1 + bit), fine},
		// What is too great.
		{model(0, most), model(0, 0x1p969), model(0x1p969, most), fine},
		{model(0, most), model(0, 0x1p970), taylor.Model{}, fault(api.ErrRange, 0)},
		{model(0, 0, 1, -most), model(0, 0, 1, -most), taylor.Model{}, fault(api.ErrRange, 2)},
		{model(0, 0, most, most), model(0, 0, most, most), taylor.Model{}, fault(api.ErrRange, 1)},
		{model(most, 0, most), model(most, 0, most), taylor.Model{}, fault(api.ErrRange, 1)},
		{model(most, 1, 2), model(least), taylor.Model{}, fault(api.ErrRange, 2)},
		{model(most), model(most), taylor.Model{}, fault(api.ErrRange, 0)},
		{model(most, 1), model(0, least), taylor.Model{}, fault(api.ErrRange, 1)},
		{model(most, 1), model(0, 1), model(most, 2), fine},
	} {
		m, err := taylor.Add(c.a, c.b)
		told(t, "Add", []any{c.a, c.b}, m, err, c.want, c.err)
		m, err = taylor.Add(c.b, c.a)
		told(t, "Add, turned round,", []any{c.a, c.b}, m, err, c.want, c.err)
	}
}

func TestMul(t *testing.T) {
	ones := slices.Repeat([]float64{1}, 13)
	upTo13 := []float64{1, 2, 3, 4, 5, 6, 7, 8, 9, 10, 11, 12, 13}
	for _, c := range []struct {
		a, b   taylor.Model
		degree int
		want   taylor.Model
		err    api.Fault
	}{
		{model(0.5, 1, 1), model(0, 1, -1), 1, model(2, 1, 0), fine},
		{model(0.5, 1, 1), model(0, 1, -1), 2, model(1, 1, 0, -1), fine},
		{model(0.5, 1, 1), model(0, 1, -1), 12, model(1, 1, 0, -1), fine},
		{model(0.5, 1, 1), model(0, 1, -1), 0, model(2, 1), fine},
		{model(0, 3), model(0, 4), 0, model(0, 12), fine},
		{model(2, 3), model(5, -4), 7, model(3*5+4*2+2*5, -12), fine},
		// One has no entries.
		{model(0), model(0), 5, model(0), fine},
		{model(2), model(3), 0, model(6), fine},
		{model(2), model(3, 1, -4), 0, model(16), fine},
		{model(0), model(3, 1, -4), 12, model(0), fine},
		{model(1), taylor.Model{C: []float64{}, Rest: 2}, 12, model(2), fine},
		// One is 0, and has entries.
		{model(0, 0), model(0, 0, 0), 12, model(0, 0, 0), fine},
		{model(1, minus), model(0, 0, -7), 0, model(7, 0), fine},
		// As long as they come.
		{model(0, ones...), model(0, ones...), 12, model(78, upTo13...), fine},
		{model(1, ones...), model(2, ones...), 12, model(78+39+2, upTo13...), fine},
		{model(0, ones...), model(0, ones...), 0, model(168, 1), fine},
		// What is rounded goes to the rest.
		{model(0, 1+bit), model(0, 1+bit), 3, model(bit*bit, 1+2*bit), fine},
		{model(0, least), model(0, 0.5), 3, model(least, 0), fine},
		{model(0, least), model(0, -least), 3, model(least, 0), fine},
		{model(least, 1), model(least), 0, model(2 * least), fine}, // and a bit of the least float
		{model(0, 0.1), model(0, 10), 0, model(0x1p-54, 1), fine},
		{model(0, 0.1, 0.1), model(0, 10), 1, model(0x1p-53, 1, 1), fine},
		{model(0, 0.1, 0.1), model(0, 10), 0, model(1+bit, 1), fine}, // 1, and 2^-53 of both
		// What is too great.
		{model(0, most), model(0, 1, 2), 1, taylor.Model{}, fault(api.ErrRange, 1)},
		{model(0, most), model(0, 1, 2), 0, taylor.Model{}, fault(api.ErrRange, 1)}, // the rest
		{model(0, most), model(0, 1, 1), 0, model(most, most), fine},
		{model(0, most), model(0, -2, 2), 1, taylor.Model{}, fault(api.ErrRange, 0)},
		{model(most), model(2), 3, taylor.Model{}, fault(api.ErrRange, 0)},
		{model(most), model(0.5, -0.5), 3, model(most), fine},
		{model(0, most, most), model(0, 1, -1), 2, model(0, most, 0, -most), fine},
		{model(least, most, most), model(0, 1, -1), 2, model(2*least, most, 0, -most), fine},
		{model(0, most, most), model(1), 2, taylor.Model{}, fault(api.ErrRange, 0)},
		{model(0, most, 1), model(1, 0), 2, taylor.Model{}, fault(api.ErrRange, 2)},
	} {
		m, err := taylor.Mul(c.a, c.b, c.degree)
		told(t, "Mul", []any{c.a, c.b, c.degree}, m, err, c.want, c.err)
		m, err = taylor.Mul(c.b, c.a, c.degree)
		told(t, "Mul, turned round,", []any{c.a, c.b, c.degree}, m, err, c.want, c.err)
	}
}

func TestSum(t *testing.T) {
	zeros := slices.Repeat([]float64{0}, 12)
	third := 1.0 / 3 // below 1/3, by a third of 2^-54
	for _, c := range []struct {
		a, want taylor.Model
		err     api.Fault
	}{
		{model(0), model(0, 0), fine},
		{model(2), model(2, 0), fine},
		{taylor.Model{C: []float64{}, Rest: 2}, model(2, 0), fine},
		{model(1, 1, 4), model(1, 0, 1, 2), fine},
		{model(0.5, 5, -4, 9), model(0.5, 0, 5, -2, 3), fine},
		{model(0, 0, 0, 1), model(0x1p-54*third+0x1p-108, 0, 0, 0, third), fine}, // up
		{model(0, 0, 0, -1), model(0x1p-54*third+0x1p-108, 0, 0, 0, -third), fine},
		{model(0, 0, least), model(least, 0, 0, 0), fine},
		{model(0, 0, 3*least), model(least, 0, 0, 2*least), fine},
		{model(1, 0, least), model(1+bit, 0, 0, 0), fine},
		// As long as it comes: the last one goes to the rest.
		{model(0, append(zeros, 13)...), model(1, append(zeros, 0)...), fine},
		{model(1, append(zeros, -26)...), model(3, append(zeros, 0)...), fine},
		{model(0, append(zeros[:11:11], 24)...), model(0, append(zeros, 2)...), fine},
		// What is too great.
		{model(most, most), model(most, 0, most), fine},
		{model(most, 0, least), taylor.Model{}, fault(api.ErrRange, 3)},
		{model(most, 1, least), taylor.Model{}, fault(api.ErrRange, 3)},
		{model(most, append(zeros, least)...), taylor.Model{}, fault(api.ErrRange, 13)},
		{model(most, append(zeros[:11:11], 24, 0)...), model(most, append(zeros, 2)...), fine},
	} {
		m, err := taylor.Sum(c.a)
		told(t, "Sum", c.a, m, err, c.want, c.err)
	}
}

// TestReckonsAsSaid holds all three against the chapter's words.
func TestReckonsAsSaid(t *testing.T) {
	next := stream(2)
	l := models(3, 12)
	none := 0
	for i, a := range l {
		for _, b := range []taylor.Model{l[next()%uint64(len(l))], l[(i+10)%len(l)], a} {
			want, code := made(added(rats(a.C), rats(b.C)), api.MaxDegree, plus(rat(a.Rest), rat(b.Rest)))
			m, err := taylor.Add(a, b)
			told(t, "Add", []any{a, b}, m, err, want, code)
			degree := int(next() % (api.MaxDegree + 1))
			want, code = product(a, b, degree)
			m, err = taylor.Mul(a, b, degree)
			told(t, "Mul", []any{a, b, degree}, m, err, want, code)
			if code != fine {
				none++
			}
		}
		want, code := made(summed(rats(a.C)), api.MaxDegree, rat(a.Rest))
		m, err := taylor.Sum(a)
		told(t, "Sum", a, m, err, want, code)
	}
	if none == 0 || none > len(l) {
		t.Errorf("%d of %d products are none", none, 3*len(l))
	}
}

// TestAllDegrees: what a product says of each degree.
func TestAllDegrees(t *testing.T) {
	l := models(4, 1)
	for i, a := range l {
		b := l[(i*7+5)%len(l)]
		for degree := range api.MaxDegree + 1 {
			want, code := product(a, b, degree)
			m, err := taylor.Mul(a, b, degree)
			told(t, "Mul", []any{a, b, degree}, m, err, want, code)
		}
	}
}
