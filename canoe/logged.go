package canoe

import (
	"motu/api"
	"motu/set"
)

// The kinds of sets that are told of a log.
const (
	atOnce = iota
	hindsight
)

// logged is a sea with a log.
type logged struct {
	api.CanoeSea
	log []api.CanoeHour
}

// lead returns the cells to which a course can lead from a set in an hour.
func (l logged) lead(course int, from set.Set) set.Set {
	var to set.Set
	for cell := range from.All() {
		to |= set.Set(l.Courses[course][cell])
	}
	return to
}

// after returns the cells in which a canoe can be after an hour that began in a set.
func (l logged) after(hour api.CanoeHour, from set.Set) set.Set {
	to := l.lead(hour.Course, from)
	if hour.Star == unseen {
		return to
	}
	return to & set.Set(l.Stars[hour.Star])
}

// before returns the cells of a set from which an hour can lead into another set.
func (l logged) before(hour api.CanoeHour, from, to set.Set) set.Set {
	var kept set.Set
	for cell := range from.All() {
		if l.after(hour, set.Of(cell))&to != 0 {
			kept = kept.With(cell)
		}
	}
	return kept
}

// where returns the set after each hour, with what was seen until then.
func (l logged) where() []set.Set {
	sets := []set.Set{set.Set(l.Start)}
	for k, hour := range l.log {
		sets = append(sets, l.after(hour, sets[k]))
	}
	return sets
}

// past returns the set after each hour, with what was seen in the whole log.
func (l logged) past() []set.Set {
	sets := l.where()
	for k := len(l.log) - 1; k >= 0; k-- {
		sets[k] = l.before(l.log[k], sets[k], sets[k+1])
	}
	return sets
}

// sets returns all sets of a kind.
func (l logged) sets(kind int) []int {
	kinds := [...]func() []set.Set{atOnce: l.where, hindsight: l.past}
	var told []int
	for _, cells := range kinds[kind]() {
		told = append(told, int(cells))
	}
	return told
}

// end returns the set after the whole log.
func (l logged) end() set.Set { return l.where()[len(l.log)] }

func (l logged) isPossible() bool { return l.end() != 0 }

func (l logged) fits(path []int) bool {
	if len(path) != len(l.log)+1 || !set.Set(l.Start).Has(path[0]) {
		return false
	}
	for k, hour := range l.log {
		if !l.after(hour, set.Of(path[k])).Has(path[k+1]) {
			return false
		}
	}
	return true
}
