package ids

import "slices"

// ring is a row: what is pushed stands behind the others, what is popped was the first. Its cells are used round and round.
type ring[T any] struct {
	cells []T
	first int // the cell of the first one
	size  int
}

// place is the cell of one that stands behind i others; i is at most the number of cells.
func (r *ring[T]) place(i int) int {
	at := r.first + i
	if at >= len(r.cells) {
		at -= len(r.cells)
	}
	return at
}

// push puts one behind the others.
func (r *ring[T]) push(v T) {
	if r.size == len(r.cells) {
		r.grow()
	}
	r.cells[r.place(r.size)] = v
	r.size++
}

// grow makes room for as many again, and one.
func (r *ring[T]) grow() {
	cells := make([]T, 2*r.size+1)
	copy(cells, r.all())
	*r = ring[T]{cells: cells, size: r.size}
}

// pop takes the first one away; false, if there is none.
func (r *ring[T]) pop() (T, bool) {
	v, there := r.front()
	if there {
		r.first = r.place(1)
		r.size--
	}
	return v, there
}

// front is the first one; false, if there is none.
func (r *ring[T]) front() (T, bool) {
	return r.at(0)
}

// back is the last one; false, if there is none.
func (r *ring[T]) back() (T, bool) {
	return r.at(r.size - 1)
}

// at is the one that stands behind i others; false, if there is none.
func (r *ring[T]) at(i int) (T, bool) {
	if i < 0 || i >= r.size {
		var none T
		return none, false
	}
	return r.cells[r.place(i)], true
}

// each tells all, in order.
func (r *ring[T]) each(yield func(T) bool) {
	for i := range r.size {
		if !yield(r.cells[r.place(i)]) {
			return
		}
	}
}

// all is a list of all, in order.
func (r *ring[T]) all() []T {
	return slices.Collect(r.each)
}

// fork is another row of the same, on cells of its own.
func (r *ring[T]) fork() ring[T] {
	return ring[T]{cells: r.all(), size: r.size}
}
