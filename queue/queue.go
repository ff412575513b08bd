// Package queue keeps what waits to be looked at, which searches of layers do in the same way.
package queue

import "iter"

// Queue is what waits. Its zero value is empty.
type Queue[T any] struct {
	waiting []T
}

// Add lets something wait behind all the rest.
func (q *Queue[T]) Add(x T) { q.waiting = append(q.waiting, x) }

// All takes out what waits, and what is added meanwhile, too: what came first is first.
func (q *Queue[T]) All() iter.Seq[T] {
	return func(yield func(T) bool) {
		for len(q.waiting) > 0 {
			x := q.waiting[0]
			q.waiting = q.waiting[1:]
			if !yield(x) {
				return
			}
		}
	}
}
