package bane

import (
	"cmp"
	"iter"
	"math/bits"
	"slices"

	"motu/amount"
)

// set is numbers of kinds of fish, or of trips, as bits.
type set int

func setOf(numbers []int) set {
	var s set
	for _, n := range numbers {
		s = s.with(n)
	}
	return s
}

func (s set) with(n int) set { return s | 1<<n }

func (s set) has(n int) bool { return s>>n&1 == 1 }

func (s set) numbers() []int {
	var list []int
	for n := range bits.Len(uint(s)) {
		if s.has(n) {
			list = append(list, n)
		}
	}
	return list
}

// choice is a set of tests or guards, and what they cost together.
type choice struct {
	set
	cost int
}

func choose(s set, costs []int) choice {
	var chosen []int
	for _, n := range s.numbers() {
		chosen = append(chosen, costs[n])
	}
	return choice{set: s, cost: amount.Sum(chosen...)}
}

func (c choice) isBetter(other choice) bool {
	mine, others := c.numbers(), other.numbers()
	return cmp.Or(cmp.Compare(c.cost, other.cost), cmp.Compare(len(mine), len(others)), slices.Compare(mine, others)) < 0
}

// cheapest returns the best set of those that suffice, and whether there is one.
func cheapest(costs []int, suffices func(set) bool) (choice, bool) {
	return best(func(yield func(choice) bool) {
		for number := range 1 << len(costs) {
			if s := set(number); suffices(s) && !yield(choose(s, costs)) {
				return
			}
		}
	}, choice.isBetter)
}

// best returns the first of some choices than which no other one is better, and whether there is one.
func best[T any](choices iter.Seq[T], isBetter func(a, b T) bool) (T, bool) {
	var kept T
	found := false
	for x := range choices {
		if !found || isBetter(x, kept) {
			kept, found = x, true
		}
	}
	return kept, found
}
