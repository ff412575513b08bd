package bane

import (
	"slices"

	"motu/amount"
	"motu/api"
	"motu/best"
	"motu/bounds"
	"motu/lists"
	"motu/set"
)

// looked is a web that is looked at, with the kinds of fish that are tested.
type looked struct {
	api.BaneWeb
	tests set.Set
}

// follow returns the level of each kind in truth; of a kind that is tested, no more than its test lets pass.
func (l looked) follow(t api.BaneTruth) []int {
	levels := make([]int, len(l.Fish))
	for kind, fish := range l.Fish {
		amounts := []int{t.Bases[kind]}
		for k, bite := range fish.Bites {
			amounts = append(amounts, amount.Part(levels[bite.Prey], t.Shares[kind][k]))
		}
		levels[kind] = amount.Sum(amounts...)
		if l.tests.Has(kind) {
			levels[kind] = min(levels[kind], fish.Pass)
		}
	}
	return levels
}

// at returns the truth of one end of all spans. More poison anywhere never makes less elsewhere, so that the levels of all truths lie between those of both ends.
func (l looked) at(end func(api.Span) int) api.BaneTruth {
	var t api.BaneTruth
	for _, fish := range l.Fish {
		var shares []int
		for _, bite := range fish.Bites {
			shares = append(shares, end(bite.Share))
		}
		t.Bases, t.Shares = append(t.Bases, end(fish.Base)), append(t.Shares, shares)
	}
	return t
}

func (l looked) least() []int { return l.follow(l.at(bounds.Low)) }

func (l looked) greatest() []int { return l.follow(l.at(bounds.High)) }

func (l looked) levels() []api.Span {
	var ends [2][]int
	for k, follow := range [2]func() []int{l.least, l.greatest} {
		ends[k] = follow()
	}
	levels := make([]api.Span, len(l.Fish))
	for kind := range levels {
		levels[kind] = api.Span{Low: ends[0][kind], High: ends[1][kind]}
	}
	return levels
}

// ended is a worst chain that has come to its end; the search for one panics with it.
type ended []int

func (l looked) worst(kind int) (chain []int) {
	defer func() {
		chain, _ = recover().(ended)
	}()
	greatest := l.greatest()
	for {
		chain = append(chain, kind)
		kind = l.worstPrey(chain, greatest)
	}
}

// worstPrey returns the kind from which most comes into the last one of a chain. It gives up if this one eats none.
func (l looked) worstPrey(chain, greatest []int) int {
	bites := l.Fish[chain[len(chain)-1]].Bites
	comes := func(bite api.BaneBite) int { return amount.Part(greatest[bite.Prey], bite.Share.High) }
	worst, found := best.Of(slices.Values(bites), func(a, b api.BaneBite) bool { return comes(a) > comes(b) })
	if !found {
		panic(ended(chain))
	}
	return worst.Prey
}

// areSafe reports whether no kind of a menu has a level above the limit, whatever is true.
func (l looked) areSafe(menu []int) bool {
	greatest := l.greatest()
	return !slices.ContainsFunc(menu, func(kind int) bool { return greatest[kind] > l.Limit })
}

func bestTests(w api.BaneWeb, menu []int) ([]int, int, api.Errno) {
	costs := lists.Each(w.Fish, func(fish api.BaneFish) int { return fish.Cost })
	return best.Cheapest(costs, func(tests set.Set) bool { return looked{BaneWeb: w, tests: tests}.areSafe(menu) })
}
