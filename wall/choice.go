package wall

import (
	"slices"

	"motu/amount"
	"motu/api"
	"motu/best"
	"motu/first"
	"motu/lists"
)

// stoppedLevel is a level that no ground lets go on: that of water that has stopped.
const stoppedLevel = -api.WallHeight

// choice is a kind of work for each cell from some cell on, and what all of them cost.
type choice struct {
	kinds []int
	cost  int
}

// after returns a choice with a kind of work for the cell before its cells, too.
func (c choice) after(kind, cost int) choice {
	return choice{kinds: slices.Concat([]int{kind}, c.kinds), cost: amount.Sum(cost, c.cost)}
}

// cheapest returns the cheapest one of the choices that are compared, and whether there is one; of several it is the first one.
func cheapest(compared ...choice) (choice, bool) {
	return best.Of(slices.Values(compared), func(a, b choice) bool { return a.cost < b.cost })
}

// choices returns the best choice for all cells with which at least 0, 1, 2 and so on houses surely stay dry, as far as there is one. What comes of the cells from a spot on does not depend on those before, so that no spot is looked at twice.
func (s stormy) choices() []choice {
	worst := s.worst()
	found := map[spot][]choice{}
	var from func(at spot) []choice
	from = func(at spot) []choice {
		if at.cell == len(s.Cells) {
			return []choice{{}}
		}
		if known, ok := found[at]; ok {
			return known
		}
		var all [][]choice
		for kind := noWork; kind < len(s.Works); kind++ {
			next, spared := s.step(at, worst.Drags[at.cell], kind)
			all = append(all, s.before(from(next), kind, spared))
		}
		kept := merged(all)
		found[at] = kept
		return kept
	}
	return from(spot{level: s.level(worst)})
}

// step returns where the water comes to behind a cell, and whether the cell has a house that stays dry.
func (s stormy) step(at spot, drag, kind int) (next spot, spared bool) {
	cell := s.Cells[at.cell]
	level, comes := s.levelIn(at, drag, kind)
	if !comes {
		return spot{cell: at.cell + 1, level: stoppedLevel}, isSpared(cell, 0)
	}
	return spot{cell: at.cell + 1, level: level}, isSpared(cell, level-cell.Ground)
}

// before returns choices with a kind of work for the cell before their cells. If its house stays dry, that is one house more with each of them.
func (s stormy) before(rest []choice, kind int, spared bool) []choice {
	all := lists.Each(rest, func(c choice) choice { return c.after(kind, s.work(kind).Cost) })
	if spared {
		return slices.Insert(all, 0, all[0])
	}
	return all
}

// merged returns for each number of houses the best choice of several lists, which come in lexicographic order.
func merged(all [][]choice) []choice {
	var kept []choice
	for {
		var compared []choice
		for _, list := range all {
			if len(kept) < len(list) {
				compared = append(compared, list[len(kept)])
			}
		}
		c, found := cheapest(compared...)
		if !found {
			return kept
		}
		kept = append(kept, c)
	}
}

// best returns the best plan and its cost, and whether there is one.
func (s stormy) best() (choice, bool) {
	all, houses := s.choices(), s.houses()
	if len(all) <= houses {
		return choice{}, false
	}
	return all[houses], true
}

// spare returns the plan that tells what is spared for some money, and how many houses surely stay dry with it. To spare none costs nothing, and to spare more never costs less.
func (s stormy) spare(money int) (choice, int) {
	all := s.choices()
	tooMany := first.Number(len(all)-1, func(houses int) bool { return all[houses].cost > money })
	return all[tooMany-1], tooMany - 1
}
