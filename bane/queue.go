package bane

import "iter"

// queue is what waits to be looked at.
type queue[T any] struct {
	waiting []T
}

func (q *queue[T]) add(x T) { q.waiting = append(q.waiting, x) }

// all takes out what waits, and what is added meanwhile, too: what came first is first.
func (q *queue[T]) all() iter.Seq[T] {
	return func(yield func(T) bool) {
		for len(q.waiting) > 0 {
			x := q.waiting[0]
			q.waiting = q.waiting[1:]
			if !yield(x) {
				return
			}
		}
	}
}
