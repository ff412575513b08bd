package land

import (
	"cmp"
	"slices"
)

// inOrder returns the events of a strip, in the order of their least years: if they have a line, it is this one.
func (l looked) inOrder(strip int, t table) []int {
	var line []int
	for event, x := range l.Events {
		if x.Strip == strip {
			line = append(line, event)
		}
	}
	slices.SortStableFunc(line, func(a, b int) int { return cmp.Compare(t.year(a).Low, t.year(b).Low) })
	return line
}

// isLine reports whether each event is surely after the one before it.
func isLine(line []int, t table) bool {
	for k := 1; k < len(line); k++ {
		if t.after(line[k-1], line[k]).Low <= 0 {
			return false
		}
	}
	return true
}

// firstStranger returns the index of the first event that does not follow; -1 if there is none.
func (l looked) firstStranger(line []int) int {
	for k := 1; k < len(line); k++ {
		if !l.mayFollow(l.Events[line[k]].Holder, l.Events[line[k-1]].Holder) {
			return k
		}
	}
	return -1
}

func (l looked) heirs(holder int) []int {
	var heirs []int
	for person := range l.People {
		if l.mayFollow(person, holder) {
			heirs = append(heirs, person)
		}
	}
	return heirs
}

func (l looked) mayFollow(person, holder int) bool {
	ways := [3]func(person, holder int) bool{l.isChild, l.isAdopted, l.isSibling}
	for _, is := range ways {
		if is(person, holder) {
			return person != holder
		}
	}
	return false
}

func (l looked) isChild(person, holder int) bool { return l.People[person].Mother == holder }

func (l looked) isAdopted(person, holder int) bool { return l.People[person].Adopted == holder }

func (l looked) isSibling(person, holder int) bool {
	mother := l.People[holder].Mother
	return mother != nobody && l.People[person].Mother == mother
}
