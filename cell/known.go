package cell

import (
	"slices"

	"motu/api"
	"motu/bounds"
	"motu/lists"
	"motu/set"
)

// seen is what was seen of a day in some weathers: the bounds of its energy, the loads that were carried in all of them, and those that were in any.
type seen struct {
	battery api.Span
	always  set.Set
	ever    set.Set
}

// with returns what was seen of a day with one more end of it.
func (s seen) with(end api.CellDay) seen {
	carried := set.Set(end.Carried)
	return seen{battery: bounds.With(s.battery, end.Battery), always: s.always & carried, ever: s.ever | carried}
}

func (s seen) word(load int) api.CellWord {
	switch {
	case s.always.Has(load):
		return api.CellSurely
	case s.ever.Has(load):
		return api.CellMay
	}
	return api.CellNever
}

// known returns what is known of each day for a sky, and whether an allowed weather agrees with it. It follows all of these weathers, as less energy on a day can leave more on a later one.
func (p powered) known(sky string) ([]api.CellSeen, bool) {
	loads := len(p.Loads)
	unseen := seen{battery: bounds.None(), always: 1<<loads - 1}
	days := slices.Repeat([]seen{unseen}, p.Days)
	found := false
	for weather := range weathers(p.CellSystem, sky) {
		found = true
		ends, _ := p.play(weather)
		for day, end := range ends {
			days[day] = days[day].with(end)
		}
	}
	return lists.Each(days, func(s seen) api.CellSeen {
		words := make([]api.CellWord, loads)
		for load := range words {
			words[load] = s.word(load)
		}
		return api.CellSeen{Battery: s.battery, Loads: words}
	}), found
}
