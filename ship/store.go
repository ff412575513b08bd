package ship

import (
	"slices"

	"motu/amount"
	"motu/api"
	"motu/bounds"
	"motu/first"
	"motu/lists"
	"motu/set"
)

// loaded is a store with the load of each ship, for some days.
type loaded struct {
	api.ShipStore
	load set.Set
	days int
}

func withLoad(s api.ShipStore, load []int, days int) loaded {
	return loaded{ShipStore: s, load: set.Of(load...), days: days}
}

// goods returns those of each kind in truth.
func (l loaded) goods(t api.ShipTruth) []goods {
	ships := l.ships(t.Gaps)
	lots := set.Pick(l.load, t.Goods)
	all := make([]goods, len(l.Stock))
	for kind := range all {
		brought := lists.Each(lots, func(lot []int) int { return lot[kind] })
		all[kind] = goods{stock: l.Stock[kind], use: t.Uses[kind], brought: amount.Sum(brought...), ships: ships}
	}
	return all
}

// ships returns for each day whether a ship comes on it. Those that come later do not matter.
func (l loaded) ships(gaps []int) []bool {
	comes := make([]bool, l.days)
	day := 0
	for _, gap := range gaps {
		day += gap
		if day < l.days {
			comes[day] = true
		}
	}
	return comes
}

// truth returns what is true if one end of each span comes ashore, and the other is used, or lies between two ships.
func (l loaded) truth(comes, goes func(api.Span) int) api.ShipTruth {
	gap := goes(l.Gap)
	return api.ShipTruth{
		Uses:  lists.Each(l.Use, goes),
		Gaps:  slices.Repeat([]int{gap}, quotientUp(l.days, gap)),
		Goods: lists.Each(l.Lots, func(lot api.ShipLot) []int { return lists.Each(lot.Goods, comes) }),
	}
}

// quotientUp returns a quotient that is rounded up.
func quotientUp(n, divisor int) int { return (n + divisor - 1) / divisor }

// scarcest returns the goods of each kind in the truth in which they are wanting first. Until they are, no other truth leaves fewer of them, as more goods on a day never make fewer later.
func (l loaded) scarcest() []goods { return l.goods(l.truth(bounds.Low, bounds.High)) }

// richest returns the goods of each kind in the truth in which they are wanting last.
func (l loaded) richest() []goods { return l.goods(l.truth(bounds.High, bounds.Low)) }

func (l loaded) wants() []api.ShipWant {
	may, must := firstDays(l.scarcest()), firstDays(l.richest())
	all := make([]api.ShipWant, len(l.Stock))
	for kind := range all {
		all[kind] = api.ShipWant{May: may[kind], Must: must[kind]}
	}
	return all
}

// firstDays returns the first day on which goods of each kind are wanting.
func firstDays(all []goods) []int { return lists.Each(all, goods.firstDay) }

// lasts reports whether no kind can be wanting.
func (l loaded) lasts() bool {
	return !slices.ContainsFunc(l.scarcest(), func(g goods) bool { return !g.suffice() })
}

// ration returns the greatest ration of a kind with which it cannot be wanting. With the ration 0 nothing is used.
func (l loaded) ration(kind int) int {
	g := l.scarcest()[kind]
	use := g.use
	tooMuch := first.Number(amount.Whole, func(ration int) bool {
		g.use = quotientUp(use*ration, amount.Whole)
		return !g.suffice()
	})
	return tooMuch - 1
}
