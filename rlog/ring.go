package rlog

import "iter"

// ring holds things in a row, numbered from 0 on: they come behind the last, and go in
// front or behind. A log moves on through its indexes, and a ring moves on through its
// slots with it, so that nothing is copied when things go in front.
type ring[T any] struct {
	slots []T
	first int // the slot of thing 0; after the last slot comes slot 0
	n     int // how many things there are
}

// at answers thing k, which there is.
func (r *ring[T]) at(k int) T { return *r.slot(k) }

// part tells n things from k on, which there are.
func (r *ring[T]) part(k, n int) iter.Seq[T] {
	return func(yield func(T) bool) {
		for i := range n {
			if !yield(r.at(k + i)) {
				return
			}
		}
	}
}

// add lays x behind the last thing.
func (r *ring[T]) add(x T) {
	if r.n == len(r.slots) {
		r.grow()
	}
	r.n++
	*r.slot(r.n - 1) = x
}

// cut takes away all but the first n things.
func (r *ring[T]) cut(n int) {
	for r.n > n {
		r.empty(r.n - 1)
		r.n--
	}
}

// drop takes away the first n things.
func (r *ring[T]) drop(n int) {
	for range n {
		r.empty(0)
		r.first = (r.first + 1) % len(r.slots)
		r.n--
	}
}

// slot answers where thing k lies.
func (r *ring[T]) slot(k int) *T { return &r.slots[(r.first+k)%len(r.slots)] }

// empty clears the slot of thing k, for what is gone is not to be kept in memory.
func (r *ring[T]) empty(k int) {
	var none T
	*r.slot(k) = none
}

// grow makes room for twice as many things, and one at least.
func (r *ring[T]) grow() {
	slots := make([]T, 0, 2*r.n+1)
	for x := range r.part(0, r.n) {
		slots = append(slots, x)
	}
	r.slots, r.first = slots[:cap(slots)], 0
}
