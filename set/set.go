// Package set keeps numbers from 0 on as bits, which layers do in the same way: of kinds of fish, of trips, of cells.
package set

import (
	"iter"
	"math/bits"
)

// Set is the bit 1 for the number 0, 2 for the number 1, 4 for the number 2, and so on.
type Set int

// Of returns the set of some numbers.
func Of(numbers ...int) Set {
	var s Set
	for _, n := range numbers {
		s = s.With(n)
	}
	return s
}

// With returns a set with one more number.
func (s Set) With(n int) Set { return s | 1<<n }

// Has reports whether a number is one of a set.
func (s Set) Has(n int) bool { return s>>n&1 == 1 }

// All yields the numbers of a set in increasing order.
func (s Set) All() iter.Seq[int] {
	return func(yield func(int) bool) {
		for n := range bits.Len(uint(s)) {
			if s.Has(n) && !yield(n) {
				return
			}
		}
	}
}

// Pick returns those of a list whose numbers are in a set.
func Pick[T any](s Set, list []T) []T {
	var picked []T
	for n := range s.All() {
		picked = append(picked, list[n])
	}
	return picked
}
