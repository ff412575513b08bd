package canoe

import (
	"iter"
	"slices"

	"motu/api"
	"motu/first"
	"motu/queue"
	"motu/set"
)

// missing is a sea with a log after which a canoe drifts, and boats search for it.
type missing struct {
	logged
	drift int
}

// crew is the cell of each boat, in their order; 0 where there is no boat.
type crew [api.CanoeBoats]int

// state is what boats know after some hours: where they are, and in which cells the canoe can be.
type state struct {
	boats crew
	cells set.Set
}

// origin is the state from which another one was met first, and after how many hours.
type origin struct {
	state
	hours int
}

// search returns the best plan, and whether there is one. States wait in the order of the first plans that lead to them, shorter plans before longer ones, so that the first state without any cells is that of the best plan.
func (m missing) search() ([][]int, bool) {
	start := m.start()
	last := start
	met := map[state]origin{start: {}}
	var waiting queue.Queue[state]
	waiting.Add(start)
search:
	for from := range waiting.All() {
		hours := met[from].hours + 1
		if hours > api.CanoePlan {
			break search
		}
		for to := range m.next(from) {
			if _, is := met[to]; is {
				continue
			}
			met[to] = origin{state: from, hours: hours}
			waiting.Add(to)
			if to.cells == 0 {
				last = to
				break search
			}
		}
	}
	return m.planTo(last, met), last.cells == 0
}

// start returns the state in which a search begins. A canoe that is in the cell of a boat then is not found yet.
func (m missing) start() state {
	s := state{cells: m.end()}
	copy(s.boats[:], m.Boats)
	return s
}

// next yields the states that can come an hour after one, in the order of the cells of the boats.
func (m missing) next(from state) iter.Seq[state] {
	return func(yield func(state) bool) {
		cells := m.lead(m.drift, from.cells)
		for boats := range m.moves(from.boats) {
			searched := set.Of(boats[:len(m.Boats)]...)
			if !yield(state{boats: boats, cells: cells &^ searched}) {
				return
			}
		}
	}
}

// moves yields where boats can be an hour later, in lexicographic order.
func (m missing) moves(boats crew) iter.Seq[crew] {
	return func(yield func(crew) bool) { m.move(boats, 0, yield) }
}

// move yields the same, where the boats before one have moved already, and reports whether more is wanted.
func (m missing) move(boats crew, boat int, yield func(crew) bool) bool {
	if boat == len(m.Boats) {
		return yield(boats)
	}
	for cell := range reach(m.CanoeSea, boats[boat]).All() {
		boats[boat] = cell
		if !m.move(boats, boat+1, yield) {
			return false
		}
	}
	return true
}

// planTo returns the plan by which a state was met.
func (m missing) planTo(s state, met map[state]origin) [][]int {
	plan := make([][]int, met[s].hours)
	for hour := range slices.Backward(plan) {
		plan[hour] = slices.Clone(s.boats[:len(m.Boats)])
		s = met[s].state
	}
	return plan
}

// escape returns the first path that escapes a plan, and whether there is one.
func (m missing) escape(plan [][]int) ([]int, bool) {
	return first.List(len(plan)+1, func(path []int) iter.Seq[int] {
		hours := len(path)
		if hours == 0 {
			return m.end().All()
		}
		cells := m.lead(m.drift, set.Of(path[hours-1]))
		return (cells &^ set.Of(plan[hours-1]...)).All()
	})
}
