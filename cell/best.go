package cell

import (
	"cmp"
	"math/bits"
	"slices"

	"motu/api"
	"motu/first"
	"motu/set"
)

// least returns what measures least of all that suffices, and whether there is anything; of several it is the first one.
func least[T any](all []T, measure func(T) int, suffices func(T) bool) (T, bool) {
	inOrder := slices.SortedStableFunc(slices.Values(all), func(a, b T) int { return cmp.Compare(measure(a), measure(b)) })
	return first.Of(slices.Values(inOrder), suffices)
}

// bought is numbers of panels and batteries.
type bought struct {
	panels    int
	batteries int
}

// looked is a system that is looked at, with what was found for panels and batteries: whether their power suffices. Panels that give nothing have the same power whatever their number, and so have batteries that hold nothing.
type looked struct {
	api.CellSystem
	found map[power]bool
}

func lookAt(c api.CellSystem) looked {
	return looked{CellSystem: c, found: map[power]bool{}}
}

func (l looked) cost(b bought) int { return b.panels*l.Panel + b.batteries*l.Battery }

// best returns the best panels and batteries, and whether any suffice.
func (l looked) best() (bought, bool) {
	var all []bought
	for panels := range api.CellPanels + 1 {
		for batteries := range api.CellBatteries + 1 {
			all = append(all, bought{panels: panels, batteries: batteries})
		}
	}
	return least(all, l.cost, l.suffice)
}

func (l looked) suffice(b bought) bool {
	p := withPower(l.CellSystem, b.panels, b.batteries)
	fine, ok := l.found[p.power]
	if !ok {
		fine = p.suffices()
		l.found[p.power] = fine
	}
	return fine
}

// mustBeOff returns the loads that must be switched off, and whether there is such a set. It looks at sets with more loads, too, even if fewer of them do not help: what a load leaves when it is off, another one can take.
func (p powered) mustBeOff() (set.Set, bool) {
	return least(p.canBeOff(), size, func(off set.Set) bool { return p.without(off).suffices() })
}

// canBeOff returns the sets of loads that need not be carried, as increasing numbers.
func (p powered) canBeOff() []set.Set {
	var must set.Set
	for number, load := range p.Loads {
		if load.Must {
			must = must.With(number)
		}
	}
	var all []set.Set
	for number := range 1 << len(p.Loads) {
		if off := set.Set(number); off&must == 0 {
			all = append(all, off)
		}
	}
	return all
}

func size(s set.Set) int { return bits.OnesCount(uint(s)) }
