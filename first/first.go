// Package first finds the first one of several things, which layers do in the same way.
package first

import "iter"

// Of returns the first one of all that holds, and whether there is one.
func Of[T any](all iter.Seq[T], holds func(T) bool) (T, bool) {
	for x := range all {
		if holds(x) {
			return x, true
		}
	}
	var none T
	return none, false
}

// Number returns the first number from 0 on that holds, if all numbers after one that holds do, too; most + 1 if none up to most does.
func Number(most int, holds func(int) bool) int {
	from, to := 0, most+1
search:
	for {
		middle := (from + to) / 2
		switch {
		case from == to:
			break search
		case holds(middle):
			to = middle
		default:
			from = middle + 1
		}
	}
	return from
}

// place is an item of a list, and how many items come before it.
type place[T comparable] struct {
	before int
	item   T
}

// List returns the first list of so many items, in lexicographic order, and whether there is one. Which items can come next, in increasing order, depends on how many there are and on the last one, so that none is tried twice in a place.
func List[T comparable](length int, next func(list []T) iter.Seq[T]) ([]T, bool) {
	tried := map[place[T]]bool{}
	var list []T
	var goOn func() bool
	goOn = func() bool {
		before := len(list)
		if before == length {
			return true
		}
		for item := range next(list) {
			p := place[T]{before: before, item: item}
			if tried[p] {
				continue
			}
			tried[p] = true
			list = append(list[:before], item)
			if goOn() {
				return true
			}
		}
		return false
	}
	if !goOn() {
		return nil, false
	}
	return list, true
}
