package wall

import (
	"iter"
	"slices"

	"motu/amount"
	"motu/api"
	"motu/bounds"
)

// spot is a cell, and the level with which water comes to it.
type spot struct {
	cell  int
	level int
}

// work returns what a kind of work does in a cell: none does nothing, for nothing.
func (s stormy) work(kind int) api.WallWork {
	if kind == noWork {
		return api.WallWork{}
	}
	return s.Works[kind]
}

// stopped is what water that stops in a cell gives up with.
type stopped struct{}

// through returns the level in a cell, with some drag and kind of work. It gives up if the water stops there.
func (s stormy) through(at spot, drag, kind int) int {
	cell, work := s.Cells[at.cell], s.work(kind)
	level := at.level - amount.Sum(drag, work.Calm)
	if level <= amount.Sum(cell.Ground, work.Rise) {
		panic(stopped{})
	}
	return level
}

// levelIn returns the level in a cell, and true; false if the water stops there.
func (s stormy) levelIn(at spot, drag, kind int) (level int, comes bool) {
	defer func() {
		_, stops := recover().(stopped)
		comes = !stops
	}()
	return s.through(at, drag, kind), true
}

// built is a shore in a class of storms, with the works of a plan.
type built struct {
	stormy
	plan []int
}

func withPlan(s stormy, plan []int) built { return built{stormy: s, plan: plan} }

// reached yields the cells to which the water comes in truth, and the level in each of them.
func (b built) reached(t api.WallTruth) iter.Seq2[int, int] {
	return func(yield func(cell, level int) bool) {
		at := spot{level: b.level(t)}
		for cell, drag := range t.Drags {
			at.cell = cell
			level, comes := b.levelIn(at, drag, b.plan[cell])
			if !comes || !yield(cell, level) {
				return
			}
			at.level = level
		}
	}
}

// depths returns the depth of each cell in truth.
func (b built) depths(t api.WallTruth) []int {
	depths := make([]int, len(b.Cells))
	for cell, level := range b.reached(t) {
		depths[cell] = level - b.Cells[cell].Ground
	}
	return depths
}

// between returns between which bounds the depth of each cell lies.
func (b built) between() []api.Span {
	spans := slices.Repeat([]api.Span{bounds.None()}, len(b.Cells))
	for _, end := range b.ends() {
		for cell, depth := range b.depths(end()) {
			spans[cell] = bounds.With(spans[cell], depth)
		}
	}
	return spans
}

// spared returns the cells whose houses surely stay dry.
func (b built) spared() []int {
	var cells []int
	for cell, depth := range b.depths(b.worst()) {
		if isSpared(b.Cells[cell], depth) {
			cells = append(cells, cell)
		}
	}
	return cells
}

// inward returns the first cell from some cell on that surely stays dry, and whether there is one. Where there is water it has a depth above 0, as the ground stops it otherwise.
func (b built) inward(from int) (int, bool) {
	steps := slices.Index(b.depths(b.worst())[from:], 0)
	return from + steps, steps >= 0
}
