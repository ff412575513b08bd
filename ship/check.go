package ship

import (
	"motu/amount"
	"motu/api"
	"motu/bounds"
	"motu/lists"
	"motu/set"
)

func isPass(p api.ShipPass) bool {
	return bounds.In(len(p.Tides), 1, api.ShipPeriod) && bounds.AllIn(p.Tides, -api.ShipMetres, api.ShipMetres) &&
		bounds.In(p.Depth, 0, api.ShipMetres) && bounds.In(p.Draft, 0, api.ShipMetres) &&
		bounds.In(len(p.Swell), 1, api.ShipDays) && bounds.AreSpans(p.Swell, api.ShipMetres) &&
		bounds.IsSpan(p.Light, api.ShipHours-1)
}

func isDay(p api.ShipPass, day int) bool { return bounds.In(day, 0, len(p.Swell)-1) }

func isCall(p api.ShipPass, c api.ShipCall) bool {
	return isDay(p, c.Day) && bounds.In(c.Hour, 0, api.ShipHours-1)
}

func isGap(gap api.Span) bool { return bounds.IsWithin(gap, 1, api.ShipGap) }

func isStore(s api.ShipStore) bool {
	return bounds.In(len(s.Stock), 1, api.ShipKinds) && bounds.AllIn(s.Stock, 0, api.ShipGoods) &&
		len(s.Use) == len(s.Stock) && bounds.AreSpans(s.Use, api.ShipUse) &&
		isGap(s.Gap) && areLots(s) && isWeight(s.Hold)
}

func areLots(s api.ShipStore) bool {
	if len(s.Lots) > api.ShipLots {
		return false
	}
	for _, lot := range s.Lots {
		if !isLot(s, lot) {
			return false
		}
	}
	return true
}

func isLot(s api.ShipStore, lot api.ShipLot) bool {
	return len(lot.Goods) == len(s.Stock) && bounds.AreSpans(lot.Goods, api.ShipGoods) &&
		isWeight(lot.Weight) && bounds.In(lot.Cost, 0, api.ShipCost)
}

func isWeight(n int) bool { return bounds.In(n, 0, api.ShipWeight) }

func isKind(s api.ShipStore, kind int) bool { return bounds.In(kind, 0, len(s.Stock)-1) }

func isLoad(s api.ShipStore, load []int) bool {
	return bounds.AreNumbers(load, len(s.Lots)) && fits(s, set.Of(load...))
}

// fits reports whether a ship can carry some lots together.
func fits(s api.ShipStore, load set.Set) bool {
	weights := lists.Each(set.Pick(load, s.Lots), func(lot api.ShipLot) int { return lot.Weight })
	return amount.Sum(weights...) <= s.Hold
}

func areDays(days int) bool { return bounds.In(days, 0, api.ShipLast) }

func isTruth(s api.ShipStore, days int, t api.ShipTruth) bool {
	return bounds.InSpans(t.Uses, s.Use) && areGaps(s, days, t.Gaps) && areGoods(s, t.Goods)
}

// areGaps reports whether gaps of ships are as defined, and last for so many days.
func areGaps(s api.ShipStore, days int, gaps []int) bool {
	return len(gaps) <= api.ShipLast && bounds.AllIn(gaps, s.Gap.Low, s.Gap.High) && amount.Sum(gaps...) >= days
}

// areGoods reports whether there are goods of each lot, and lie where they may.
func areGoods(s api.ShipStore, all [][]int) bool {
	if len(all) != len(s.Lots) {
		return false
	}
	for k, lot := range s.Lots {
		if !bounds.InSpans(all[k], lot.Goods) {
			return false
		}
	}
	return true
}
