package canoe

import "iter"

// place is an item of a list, and how many items come before it.
type place[T comparable] struct {
	before int
	item   T
}

// first returns the first list of so many items, in lexicographic order, and whether there is one. Which items can come next, in increasing order, depends on how many there are and on the last one, so that none is tried twice in a place.
func first[T comparable](length int, next func(list []T) iter.Seq[T]) ([]T, bool) {
	tried := map[place[T]]bool{}
	var list []T
	var goOn func() bool
	goOn = func() bool {
		before := len(list)
		if before == length {
			return true
		}
		for item := range next(list) {
			p := place[T]{before: before, item: item}
			if tried[p] {
				continue
			}
			tried[p] = true
			list = append(list[:before], item)
			if goOn() {
				return true
			}
		}
		return false
	}
	if !goOn() {
		return nil, false
	}
	return list, true
}
