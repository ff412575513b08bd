package fleet

import (
	"slices"

	"motu/api"
	"motu/best"
	"motu/set"
)

// track is the cells in which a boat can have been on each day. Days that a sea does not have have none.
type track [api.FleetDays]set.Set

// watched is a sea that is watched, with the reports of a boat, and the tracks that were found for what some of them say. Reports that say the same of each day are followed once.
type watched struct {
	api.FleetSea
	reports []api.FleetReport
	found   map[track]track
}

func watch(s api.FleetSea, reports []api.FleetReport) watched {
	return watched{FleetSea: s, reports: reports, found: map[track]track{}}
}

// after returns the cells in which a boat can be a day after it was in one of some cells.
func (w watched) after(from set.Set) set.Set {
	to := from
	for cell := range from.All() {
		to |= set.Set(w.Roads[cell])
	}
	return to
}

// forward leaves the cells of a track to which a boat can have come from those of each earlier day.
func (w watched) forward(t track) track {
	for day := 1; day < w.Days; day++ {
		t[day] &= w.after(t[day-1])
	}
	return t
}

// backward leaves those from which it can have gone on to those of each later day.
func (w watched) backward(t track) track {
	for day := w.Days - 1; day > 0; day-- {
		for cell := range t[day-1].All() {
			if w.after(set.Of(cell))&t[day] == 0 {
				t[day-1] &^= set.Of(cell)
			}
		}
	}
	return t
}

// said returns what some reports say, each of its day alone.
func (w watched) said(reports set.Set) track {
	var t track
	for day := range w.Days {
		t[day] = set.Set(allCells(w.FleetSea))
	}
	for _, r := range set.Pick(reports, w.reports) {
		t[r.Day] &= set.Set(r.Cells)
	}
	return t
}

// track returns the cells of all paths that agree with some reports. A cell that is left in both directions, one after the other, is one of such a path.
func (w watched) track(reports set.Set) track {
	said := w.said(reports)
	t, ok := w.found[said]
	if ok {
		return t
	}
	t = said
	for _, follow := range [2]func(track) track{w.forward, w.backward} {
		t = follow(t)
	}
	w.found[said] = t
	return t
}

// areTrue reports whether reports are true together. If no path agrees with them, no day is left a cell.
func (w watched) areTrue(reports set.Set) bool { return w.track(reports)[0] != 0 }

// all returns the set of all reports.
func (w watched) all() set.Set { return 1<<len(w.reports) - 1 }

func (w watched) agrees(path []int) bool {
	return !slices.ContainsFunc(w.reports, func(r api.FleetReport) bool { return !set.Set(r.Cells).Has(path[r.Day]) })
}

// cheat returns the fewest reports that contradict; ErrNone if all are true together. All cost the same, so that fewer are better.
func (w watched) cheat() ([]int, api.Errno) {
	numbers, _, e := best.Cheapest(make([]int, len(w.reports)), func(reports set.Set) bool { return !w.areTrue(reports) })
	return numbers, e
}

// known returns what is known of a zone on each day, if all reports are true together.
func (w watched) known(zone int) []api.FleetWord {
	t := w.track(w.all())
	words := make([]api.FleetWord, w.Days)
	for day := range words {
		words[day] = word(t[day], set.Set(w.Zones[zone]))
	}
	return words
}

// word returns what is known of a zone if a boat can have been in some cells.
func word(cells, zone set.Set) api.FleetWord {
	switch cells & zone {
	case cells:
		return api.FleetSurely
	case 0:
		return api.FleetNot
	default:
		return api.FleetMay
	}
}

// guilty returns the places of which a boat of a fleet is guilty, if all reports are true together.
func (w watched) guilty(fleet int, m market, sale set.Set) []api.FleetPlace {
	var places []api.FleetPlace
	for zone := range w.Zones {
		for day, x := range w.known(zone) {
			place := api.FleetPlace{Zone: zone, Day: day}
			if x == api.FleetSurely && !m.isLicensed(fleet, place, sale) {
				places = append(places, place)
			}
		}
	}
	return places
}
