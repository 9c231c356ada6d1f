package wave

// reckoning is how numbers of one kind are reckoned with.
type reckoning[T any] struct {
	add, sub, mul func(a, b T) T
}

// through is the transform of l: at the place k the sum over all i of l[i] and the
// i k-th power of the root roots[1]. Of roots there are as many as of l: the powers
// of that root, from 1 on.
func through[T any](l, roots []T, by reckoning[T]) []T {
	if len(l) == 1 {
		return []T{l[0]}
	}
	squares, _ := dealt(roots)
	even, odd := dealt(l)
	even, odd = through(even, squares, by), through(odd, squares, by)
	// The power of half as many as there are is -1: so the second half of the row is
	// as the first one, but that what is odd is taken away.
	half := len(even)
	row := make([]T, len(l))
	for k := range half {
		v := by.mul(odd[k], roots[k])
		row[k], row[half+k] = by.add(even[k], v), by.sub(even[k], v)
	}
	return row
}

// dealt is what stands at even places of l, and at odd ones.
func dealt[T any](l []T) (even, odd []T) {
	for i := range len(l) / 2 {
		even, odd = append(even, l[2*i]), append(odd, l[2*i+1])
	}
	return even, odd
}
