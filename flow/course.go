package flow

import (
	"enclosure/api"
	"enclosure/ends"
	"enclosure/exact"
	"enclosure/nums"
)

// row is a function of the time, which is told so that it is 1 at the end of a way: the
// entry k belongs to the k-th power of it. All that are left out are 0. A product has
// its factors.
type row struct {
	entries []ends.Span
	a, b    *row
}

func (r *row) entry(k int) ends.Span {
	if k < len(r.entries) {
		return r.entries[k]
	}
	return ends.Span{}
}

// reckon has the entry k of a product ready, if those of its factors are.
func (r *row) reckon(k int) {
	if k < len(r.entries) {
		return
	}
	var sum ends.Span
	for i := range k + 1 {
		sum = sum.Add(r.a.entry(i).Mul(r.b.entry(k - i)))
	}
	r.entries = append(r.entries, sum)
}

// course is how unknowns go on that grow as f says.
type course struct {
	f        []api.Term
	one      *row     // which is 1 at all times
	powers   [][]*row // of each unknown, from one on
	terms    []*row   // of each term the product of its powers
	products []*row   // each behind its factors
}

// begun is the course of what begins in from.
func begun(f []api.Term, from box) *course {
	c := &course{f: f, one: &row{entries: []ends.Span{alone(exact.Int(1))}}}
	for _, s := range from {
		c.powers = append(c.powers, []*row{c.one, {entries: []ends.Span{s}}})
	}
	for _, t := range f {
		all := c.one
		for i, n := range t.Pow {
			all = c.times(all, c.power(i, n))
		}
		c.terms = append(c.terms, all)
	}
	return c
}

// times is the row of a product.
func (c *course) times(a, b *row) *row {
	if a == c.one {
		return b
	}
	if b == c.one {
		return a
	}
	r := &row{a: a, b: b}
	c.products = append(c.products, r)
	return r
}

// power is the row of the n-th power of the unknown i.
func (c *course) power(i, n int) *row {
	first := c.powers[i][1]
	for k := len(c.powers[i]); k <= n; k++ {
		r := c.times(c.powers[i][k-1], first)
		r.entries = []ends.Span{first.entry(0).Pow(k)} // which is less than a product of spans
		c.powers[i] = append(c.powers[i], r)
	}
	return c.powers[i][n]
}

// growth is the entry k of how fast each unknown grows.
func (c *course) growth(k int) box {
	for _, r := range c.products {
		r.reckon(k)
	}
	l := make(box, len(c.powers))
	for i, t := range c.f {
		l[t.Out] = l[t.Out].Add(alone(nums.Just(t.K)).Mul(c.terms[i].entry(k)))
	}
	return l
}

// entries are those of the unknowns of what begins in from, up to the number
// api.MaxDegree. They don't grow out of hand where from lies in a box that will do: what
// is reached there lies in it, so that no unknown's entries are far more than it is wide.
func (w way) entries(from box) []box {
	c, l := begun(w.f, from), []box{from}
	for k := range api.MaxDegree {
		share, _ := w.h.Quo(exact.Int(k + 1))
		next := c.growth(k).each(alone(share).Mul).loose()
		for i, s := range next {
			first := c.powers[i][1]
			first.entries = append(first.entries, s)
		}
		l = append(l, next)
	}
	return l
}

// end is where the way is at last, if it stays in b: by Taylor's theorem, what its first
// entries come to, and the next one of what begins somewhere in b, wherever that row is
// cut off.
func (w way) end(b box) box {
	near, rest := w.entries(w.y), w.entries(b)
	end, sum := b, make(box, len(b))
	for k := range api.MaxDegree {
		sum = both(sum, near[k], ends.Span.Add)
		end = both(end, both(sum, rest[k+1], ends.Span.Add), ends.Span.Meet)
	}
	return end
}
