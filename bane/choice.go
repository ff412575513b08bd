package bane

import (
	"cmp"
	"iter"
	"slices"

	"motu/amount"
	"motu/set"
)

// choice is a set of tests or guards, and what they cost together.
type choice struct {
	set.Set
	cost int
}

func choose(s set.Set, costs []int) choice {
	var chosen []int
	for n := range s.All() {
		chosen = append(chosen, costs[n])
	}
	return choice{Set: s, cost: amount.Sum(chosen...)}
}

func (c choice) numbers() []int { return slices.Collect(c.All()) }

func (c choice) isBetter(other choice) bool {
	mine, others := c.numbers(), other.numbers()
	return cmp.Or(cmp.Compare(c.cost, other.cost), cmp.Compare(len(mine), len(others)), slices.Compare(mine, others)) < 0
}

// cheapest returns the best set of those that suffice, and whether there is one.
func cheapest(costs []int, suffices func(set.Set) bool) (choice, bool) {
	return best(func(yield func(choice) bool) {
		for number := range 1 << len(costs) {
			if s := set.Set(number); suffices(s) && !yield(choose(s, costs)) {
				return
			}
		}
	}, choice.isBetter)
}

// best returns the first of some choices than which no other one is better, and whether there is one.
func best[T any](choices iter.Seq[T], isBetter func(a, b T) bool) (T, bool) {
	var kept T
	found := false
	for x := range choices {
		if !found || isBetter(x, kept) {
			kept, found = x, true
		}
	}
	return kept, found
}
