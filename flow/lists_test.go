package flow_test

import (
	"slices"
	"testing"

	"enclosure/api"
	"enclosure/flow"
)

// roomy is l with spare room behind its entries, in which something stands.
func roomy[T any](l []T, rest ...T) []T { return append(slices.Clone(l), rest...)[:len(l)] }

// asked is a system, where it begins, and a box, of which copies are kept.
type asked struct {
	f    []api.Term
	y, b []api.Span
}

// copied is a, with spare room behind all lists.
func (a asked) copied() asked {
	var f []api.Term
	for _, t := range a.f {
		t.Pow = roomy(t.Pow, 77, 78)
		f = append(f, t)
	}
	return asked{roomy(f, term(9, nan)), roomy(a.y, at(77)), roomy(a.b, at(77))}
}

// untouched fails unless a is what copied made of was.
func (a asked) untouched(t *testing.T, what string, was asked) {
	t.Helper()
	same := len(a.f) == len(was.f) && a.f[:len(a.f)+1][len(a.f)].Out == 9
	for i, s := range a.f {
		w := was.f[i]
		same = same && s.Out == w.Out && s.K == w.K && slices.Equal(s.Pow[:len(s.Pow)+2], append(slices.Clone(w.Pow), 77, 78))
	}
	same = same && slices.Equal(a.y[:len(a.y)+1], append(slices.Clone(was.y), at(77)))
	same = same && slices.Equal(a.b[:len(a.b)+1], append(slices.Clone(was.b), at(77)))
	if !same {
		t.Errorf("%s changed what was handed in: %v, was %v", what, a, was)
	}
}

func TestListsAreLeftAsTheyWere(t *testing.T) {
	square, still := []api.Term{term(0, 1, 2)}, []api.Term{term(1, 0, 4, 4)}
	wheel := []api.Term{term(1, -1, 1, 0), term(0, 1, 0, 1)}
	for _, was := range []asked{
		{square, spans(at(1)), spans(from(0, 2))},
		{square, spans(from(1, 1e9)), spans(from(0, 2))}, // of which Step finds nothing
		{[]api.Term{term(0, most, 0)}, spans(at(most)), spans(at(0))},
		{wheel, spans(at(1), from(-1, 0)), spans(from(0, 2), from(-1, 1))},
		{still, spans(at(1), at(2)), spans(at(1), at(2))},
		{nil, spans(at(1), at(2)), spans(at(1), at(2))},
	} {
		a := was.copied()
		flow.Check(a.f, len(a.y))
		a.untouched(t, "Check", was)
		flow.Holds(a.f, a.y, 0.25, a.b)
		a.untouched(t, "Holds", was)
		end, box, _ := flow.Step(a.f, a.y, 0.25)
		a.untouched(t, "Step", was)
		again, bounds, _ := flow.Step(a.f, a.y, 0.25)
		for _, l := range [][]api.Span{end, box} {
			l = append(l[:cap(l)], at(5))
			for i := range l {
				l[i] = at(nan)
			}
			a.untouched(t, "what Step told", was)
		}
		once, around, _ := flow.Step(a.f, a.y, 0.25)
		if !slices.Equal(again, once) || !slices.Equal(bounds, around) {
			t.Errorf("Step of %v: once %v %v, then %v %v", was, again, bounds, once, around)
		}
	}
}

// TestEndAndBoxAreApart: neither list shows in the other one, where both are the same.
func TestEndAndBoxAreApart(t *testing.T) {
	end, box := stepped(t, nil, spans(at(1), at(2)), 0.5)
	end[0], end[1] = at(7), at(8)
	if !slices.Equal(box, spans(at(1), at(2))) {
		t.Errorf("what is done to the end shows in the box: %v", box)
	}
}
