package wall

import (
	"motu/amount"
	"motu/api"
	"motu/bounds"
)

const (
	// noHouse stands for the floor of a cell without a house.
	noHouse = -1
	// noWork stands for the kind of work of a cell without one.
	noWork = -1
)

func isStormy(s stormy) bool { return isShore(s.WallShore) && isStorm(s.WallStorm) }

func isShore(s api.WallShore) bool {
	return areCells(s.Cells) && areWorks(s.Works) && bounds.In(s.Reef, 0, api.WallReef) && bounds.IsSpan(s.Loss, amount.Whole)
}

func areCells(cells []api.WallCell) bool {
	if !bounds.In(len(cells), 1, api.WallCells) {
		return false
	}
	for _, c := range cells {
		if !bounds.In(c.Ground, -api.WallHeight, api.WallHeight) || !bounds.IsSpan(c.Drag, api.WallHeight) || !bounds.In(c.Floor, noHouse, api.WallHeight) {
			return false
		}
	}
	return true
}

func areWorks(works []api.WallWork) bool {
	if len(works) > api.WallWorks {
		return false
	}
	for _, w := range works {
		if !bounds.In(w.Rise, 0, api.WallHeight) || !bounds.In(w.Calm, 0, api.WallHeight) || !bounds.In(w.Cost, 0, api.WallCost) {
			return false
		}
	}
	return true
}

func isStorm(c api.WallStorm) bool {
	return bounds.IsSpan(c.Wind, api.WallWind) && bounds.IsSpan(c.Fetch, api.WallFetch) && bounds.IsWithin(c.Tide, -api.WallHeight, api.WallHeight)
}

func isBuilt(b built) bool {
	return isStormy(b.stormy) && len(b.plan) == len(b.Cells) && bounds.AllIn(b.plan, noWork, len(b.Works)-1)
}

func isTruth(s stormy, t api.WallTruth) bool {
	return bounds.InSpan(t.Wind, s.Wind) && bounds.InSpan(t.Fetch, s.Fetch) && bounds.InSpan(t.Tide, s.Tide) &&
		bounds.InSpan(t.Loss, s.Loss) && bounds.InSpans(t.Drags, s.drags())
}

func isCell(s api.WallShore, cell int) bool { return bounds.In(cell, 0, len(s.Cells)-1) }

// isMoney reports whether some money is no more than works of all cells can cost, however few cells a shore has.
func isMoney(money int) bool { return bounds.In(money, 0, api.WallCells*api.WallCost) }
