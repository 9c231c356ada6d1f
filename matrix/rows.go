package matrix

import (
	"enclosure/exact"
	"enclosure/nums"
)

// rows is a matrix, exactly.
type rows [][]exact.Num

// exactly is just what a is, whose entries are finite.
func exactly(a [][]float64) rows {
	var m rows
	for _, row := range a {
		m = append(m, entries(row))
	}
	return m
}

// entries is just what l is, whose entries are finite.
func entries(l []float64) []exact.Num {
	v, _ := nums.Read(l)
	return v
}

// dot is the sum of the products of what stands at the same place.
func dot(v, w []exact.Num) exact.Num {
	var sum exact.Num
	for i := range len(v) {
		sum = sum.Add(v[i].Mul(w[i]))
	}
	return sum
}

// along is a times v.
func (a rows) along(v []exact.Num) []exact.Num {
	var l []exact.Num
	for _, row := range a {
		l = append(l, dot(row, v))
	}
	return l
}

// times is a times b.
func (a rows) times(b rows) rows {
	m := make(rows, len(a))
	for k := range len(a) {
		for i, x := range a.along(b.column(k)) {
			m[i] = append(m[i], x)
		}
	}
	return m
}

// column is the k-th one.
func (a rows) column(k int) []exact.Num {
	var v []exact.Num
	for _, row := range a {
		v = append(v, row[k])
	}
	return v
}

// more is a, and c times the matrix that does nothing.
func (a rows) more(c exact.Num) rows {
	m := make(rows, len(a))
	for i := range len(a) {
		m[i] = append(m[i], a[i]...)
		m[i][i] = m[i][i].Add(c)
	}
	return m
}

// trace is the sum of the entries from the first one of the first row to the last one
// of the last row.
func (a rows) trace() exact.Num {
	var sum exact.Num
	for i := range len(a) {
		sum = sum.Add(a[i][i])
	}
	return sum
}

// one is the matrix of n rows that does nothing.
func one(n int) rows {
	m := make(rows, n)
	for i := range n {
		m[i] = make([]exact.Num, n)
	}
	return m.more(exact.Int(1))
}

// polynomial is p, the determinant of t times one less a as a polynomial of t, from the
// constant entry on: it is 0 at the numbers by which a stretches. And m, of which a m is
// one times -p[0]. (Leverrier's and Faddeev's way: it divides by whole numbers alone,
// so that no 0 is ever in its way.)
func (a rows) polynomial() (p []exact.Num, m rows) {
	n := len(a)
	p = make([]exact.Num, n+1)
	p[n] = exact.Int(1)
	m = one(n)
	for k := range n {
		product := a.times(m)
		share, _ := exact.Over(-1, k+1)
		p[n-k-1] = product.trace().Mul(share)
		if k < n-1 {
			m = product.more(p[n-k-1])
		}
	}
	return p, m
}

// undone is m over low, which undoes a; low is 0, if nothing does.
func (a rows) undone() (m rows, low exact.Num) {
	p, m := a.polynomial()
	return m, p[0].Neg()
}
