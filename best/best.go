// Package best finds the best one of several choices, which layers do in the same way: of tests, of guards, of lots, of works, of sales.
package best

import (
	"cmp"
	"iter"
	"slices"

	"motu/amount"
	"motu/api"
	"motu/set"
)

// Of returns the first of some choices than which no other one is better, and whether there is one.
func Of[T any](choices iter.Seq[T], isBetter func(a, b T) bool) (T, bool) {
	var kept T
	found := false
	for x := range choices {
		if !found || isBetter(x, kept) {
			kept, found = x, true
		}
	}
	return kept, found
}

// choice is a set of numbers, and what they cost together.
type choice struct {
	set.Set
	cost int
}

func choose(s set.Set, costs []int) choice {
	return choice{Set: s, cost: amount.Sum(set.Pick(s, costs)...)}
}

func (c choice) numbers() []int { return slices.Collect(c.All()) }

func (c choice) isBetter(other choice) bool {
	mine, others := c.numbers(), other.numbers()
	return cmp.Or(cmp.Compare(c.cost, other.cost), cmp.Compare(len(mine), len(others)), slices.Compare(mine, others)) < 0
}

// Cheapest returns the numbers of the best set of those that suffice, and what they cost together; ErrNone if none suffices. A set is better if it costs less; of several, if it has fewer numbers; of several, if it comes first in lexicographic order.
func Cheapest(costs []int, suffices func(set.Set) bool) ([]int, int, api.Errno) {
	kept, found := Of(func(yield func(choice) bool) {
		for number := range 1 << len(costs) {
			if s := set.Set(number); suffices(s) && !yield(choose(s, costs)) {
				return
			}
		}
	}, choice.isBetter)
	if !found {
		return nil, 0, api.ErrNone
	}
	return kept.numbers(), kept.cost, api.OK
}
