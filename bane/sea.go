package bane

import (
	"iter"
	"slices"

	"motu/api"
	"motu/best"
	"motu/lists"
	"motu/queue"
	"motu/set"
)

// never stands for the day of an islet to which beetles do not come.
const never = -1

// watched is a sea with guards.
type watched struct {
	api.BaneSea
	shut set.Set // the trips on which no beetle goes
}

// carrying returns the sea with trips that carry beetles or not. One that does not is as good as guarded.
func (w watched) carrying(carries []bool) watched {
	for trip, does := range carries {
		if !does {
			w.shut = w.shut.With(trip)
		}
	}
	return w
}

// spot is an islet to which beetles came, and the day on which they did.
type spot struct {
	islet int
	day   int
}

// home is the spot of beetles that have not gone anywhere yet. It is one for all infested islets, so that a search meets paths of the same length in their order, wherever they begin.
func home() spot { return spot{islet: -1} }

// open yields the trips on which beetles can go on from a spot.
func (w watched) open(from spot) iter.Seq[int] {
	return func(yield func(int) bool) {
		for trip := range w.Trips {
			if !w.shut.Has(trip) && w.canGo(from, trip) && !yield(trip) {
				return
			}
		}
	}
}

func (w watched) canGo(from spot, trip int) bool {
	x := w.Trips[trip]
	if from == home() {
		return slices.Contains(w.Infested, x.From)
	}
	return x.From == from.islet && x.Day >= from.day+w.Wait
}

// search returns the first path to each spot that is met until a goal is. Shorter paths are met before longer ones. If no trip leads to the goal, all spots are met.
func (w watched) search(goal spot) map[spot][]int {
	paths := map[spot][]int{}
	var waiting queue.Queue[spot]
	waiting.Add(home())
search:
	for from := range waiting.All() {
		for trip := range w.open(from) {
			to := spot{islet: w.Trips[trip].To, day: w.Trips[trip].Day}
			if _, met := paths[to]; met {
				continue
			}
			paths[to] = append(slices.Clone(paths[from]), trip)
			if to == goal {
				break search
			}
			waiting.Add(to)
		}
	}
	return paths
}

// days returns for each islet the first day on which beetles can be there.
func (w watched) days() []int {
	days := slices.Repeat([]int{never}, w.Islets)
	for to := range w.search(home()) {
		if days[to.islet] == never || to.day < days[to.islet] {
			days[to.islet] = to.day
		}
	}
	for _, islet := range w.Infested {
		days[islet] = 0
	}
	return days
}

// path returns the first path to an islet, and whether there is one.
func (w watched) path(islet int) ([]int, bool) {
	if slices.Contains(w.Infested, islet) {
		return nil, true
	}
	goal := spot{islet: islet, day: w.days()[islet]}
	path, found := w.search(goal)[goal]
	return path, found
}

// keeps reports whether no clean islet can catch beetles.
func (w watched) keeps() bool {
	days := w.days()
	return !slices.ContainsFunc(w.Clean, func(islet int) bool { return days[islet] != never })
}

func bestGuards(s api.BaneSea) ([]int, int, api.Errno) {
	costs := lists.Each(s.Trips, func(trip api.BaneTrip) int { return trip.Cost })
	return best.Cheapest(costs, func(guards set.Set) bool { return watched{BaneSea: s, shut: guards}.keeps() })
}

// leastWait returns the least wait with which the clean islets are kept without any guards, and whether there is one.
func leastWait(s api.BaneSea) (int, bool) {
	w := watched{BaneSea: s}
	for wait := range api.BaneWait + 1 {
		w.Wait = wait
		if w.keeps() {
			return wait, true
		}
	}
	return 0, false
}
