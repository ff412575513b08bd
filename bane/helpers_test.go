package bane_test

import (
	"math/rand"
	"slices"

	"motu/api"
)

func span(low, high int) api.Span { return api.Span{Low: low, High: high} }

func exactly(n int) api.Span { return span(n, n) }

func bite(prey, low, high int) api.BaneBite { return api.BaneBite{Prey: prey, Share: span(low, high)} }

// chapterWeb returns the web w of the chapter's examples.
func chapterWeb() api.BaneWeb {
	return api.BaneWeb{
		Fish: []api.BaneFish{
			{Base: span(100, 200), Pass: 150, Cost: 10},
			{Base: span(0, 50), Bites: []api.BaneBite{bite(0, 500, 800)}, Pass: 200, Cost: 20},
			{Base: span(10, 20), Bites: []api.BaneBite{bite(1, 900, 1000), bite(0, 100, 200)}, Pass: 150, Cost: 30},
		},
		Limit: 200,
	}
}

// chapterTruth returns the truth of the chapter's example.
func chapterTruth() api.BaneTruth {
	return api.BaneTruth{Bases: []int{150, 20, 15}, Shares: [][]int{nil, {600}, {950, 150}}}
}

// chapterSea returns the sea s of the chapter's examples.
func chapterSea() api.BaneSea {
	return api.BaneSea{
		Islets: 4, Infested: []int{0}, Clean: []int{3}, Wait: 2,
		Trips: []api.BaneTrip{
			{Day: 1, From: 0, To: 1, Cost: 5}, {Day: 2, From: 1, To: 3, Cost: 9}, {Day: 3, From: 1, To: 2, Cost: 4},
			{Day: 5, From: 2, To: 3, Cost: 6}, {Day: 4, From: 0, To: 2, Cost: 7},
		},
	}
}

func cloneWeb(w api.BaneWeb) api.BaneWeb {
	w.Fish = slices.Clone(w.Fish)
	for k := range w.Fish {
		w.Fish[k].Bites = slices.Clone(w.Fish[k].Bites)
	}
	return w
}

func sameFish(a, b api.BaneFish) bool {
	return a.Base == b.Base && slices.Equal(a.Bites, b.Bites) && a.Pass == b.Pass && a.Cost == b.Cost
}

func sameWeb(a, b api.BaneWeb) bool {
	return slices.EqualFunc(a.Fish, b.Fish, sameFish) && a.Limit == b.Limit
}

func cloneTruth(t api.BaneTruth) api.BaneTruth {
	t.Bases = slices.Clone(t.Bases)
	t.Shares = slices.Clone(t.Shares)
	for k := range t.Shares {
		t.Shares[k] = slices.Clone(t.Shares[k])
	}
	return t
}

func sameTruth(a, b api.BaneTruth) bool {
	return slices.Equal(a.Bases, b.Bases) && slices.EqualFunc(a.Shares, b.Shares, slices.Equal)
}

func cloneSea(s api.BaneSea) api.BaneSea {
	s.Infested, s.Clean, s.Trips = slices.Clone(s.Infested), slices.Clone(s.Clean), slices.Clone(s.Trips)
	return s
}

func sameSea(a, b api.BaneSea) bool {
	return a.Islets == b.Islets && slices.Equal(a.Infested, b.Infested) && slices.Equal(a.Clean, b.Clean) && slices.Equal(a.Trips, b.Trips) && a.Wait == b.Wait
}

// plainLevel is the section 'Poison', written down a second time: the level of a kind is asked of its preys, again and again.
func plainLevel(w api.BaneWeb, t api.BaneTruth, tests []int, kind int) int {
	level := t.Bases[kind]
	for k, x := range w.Fish[kind].Bites {
		level += t.Shares[kind][k] * plainLevel(w, t, tests, x.Prey) / 1000
	}
	if slices.Contains(tests, kind) && level > w.Fish[kind].Pass {
		return w.Fish[kind].Pass
	}
	return level
}

// endTruth returns the truth of one end of all spans.
func endTruth(w api.BaneWeb, high bool) api.BaneTruth {
	end := func(s api.Span) int {
		if high {
			return s.High
		}
		return s.Low
	}
	var t api.BaneTruth
	for _, f := range w.Fish {
		shares := []int{}
		for _, x := range f.Bites {
			shares = append(shares, end(x.Share))
		}
		t.Bases, t.Shares = append(t.Bases, end(f.Base)), append(t.Shares, shares)
	}
	return t
}

// plainTruths goes through all truths of a web.
func plainTruths(w api.BaneWeb, visit func(api.BaneTruth)) {
	t := endTruth(w, false)
	var spans []api.Span
	var numbers []*int
	for kind, f := range w.Fish {
		spans, numbers = append(spans, f.Base), append(numbers, &t.Bases[kind])
		for k, x := range f.Bites {
			spans, numbers = append(spans, x.Share), append(numbers, &t.Shares[kind][k])
		}
	}
	var next func(k int)
	next = func(k int) {
		if k == len(spans) {
			visit(t)
			return
		}
		for n := spans[k].Low; n <= spans[k].High; n++ {
			*numbers[k] = n
			next(k + 1)
		}
	}
	next(0)
}

// plainSuffice reports whether tests suffice for a menu.
func plainSuffice(w api.BaneWeb, menu, tests []int) bool {
	for _, kind := range menu {
		if plainLevel(w, endTruth(w, true), tests, kind) > w.Limit {
			return false
		}
	}
	return true
}

// plainSets returns all sets of numbers below some count, in lexicographic order.
func plainSets(count int) [][]int {
	var sets [][]int
	var next func(set []int, from int)
	next = func(set []int, from int) {
		sets = append(sets, slices.Clone(set))
		for n := from; n < count; n++ {
			next(append(set, n), n+1)
		}
	}
	next(nil, 0)
	return sets
}

func plainCost(costs, set []int) int {
	cost := 0
	for _, n := range set {
		cost += costs[n]
	}
	return cost
}

// plainBest returns the cheapest set that suffices, of several the one with the fewest numbers, of several the first one in lexicographic order; false if none suffices.
func plainBest(costs []int, suffices func([]int) bool) ([]int, int, bool) {
	var best []int
	cost, found := 0, false
	for _, set := range plainSets(len(costs)) {
		c := plainCost(costs, set)
		if suffices(set) && (!found || c < cost || c == cost && len(set) < len(best)) {
			best, cost, found = set, c, true
		}
	}
	return best, cost, found
}

func fishCosts(w api.BaneWeb) []int {
	var costs []int
	for _, f := range w.Fish {
		costs = append(costs, f.Cost)
	}
	return costs
}

func tripCosts(s api.BaneSea) []int {
	var costs []int
	for _, x := range s.Trips {
		costs = append(costs, x.Cost)
	}
	return costs
}

// plainPaths goes through all paths of trips that do not go on any trip twice, in lexicographic order; a path that does is never among the shortest ones.
func plainPaths(s api.BaneSea, guards []int, visit func(path []int)) {
	var next func(path []int)
	next = func(path []int) {
		for k, x := range s.Trips {
			if slices.Contains(guards, k) || slices.Contains(path, k) || !plainGoes(s, path, x) {
				continue
			}
			on := append(slices.Clone(path), k)
			visit(on)
			next(on)
		}
	}
	next(nil)
}

// plainGoes reports whether beetles that came on a path can go on a trip.
func plainGoes(s api.BaneSea, path []int, x api.BaneTrip) bool {
	if len(path) == 0 {
		return slices.Contains(s.Infested, x.From)
	}
	last := s.Trips[path[len(path)-1]]
	return last.To == x.From && x.Day >= last.Day+s.Wait
}

// plainFirst returns for each islet the day on which it can catch beetles first, and the first path to it.
func plainFirst(s api.BaneSea, guards []int) ([]int, [][]int) {
	days, paths := make([]int, s.Islets), make([][]int, s.Islets)
	for k := range days {
		days[k] = -1
	}
	plainPaths(s, guards, func(path []int) {
		last := s.Trips[path[len(path)-1]]
		k := last.To
		if days[k] < 0 || last.Day < days[k] || last.Day == days[k] && len(path) < len(paths[k]) {
			days[k], paths[k] = last.Day, path
		}
	})
	for _, k := range s.Infested {
		days[k], paths[k] = 0, nil
	}
	return days, paths
}

// plainSpread lets beetles go on all trips that carry and are not guarded, again and again, until they come nowhere sooner.
func plainSpread(s api.BaneSea, guards []int, carries []bool) []int {
	const late = 1 << 20
	days := slices.Repeat([]int{late}, s.Islets)
	for changed := true; changed; {
		changed = false
		for k, x := range s.Trips {
			can := days[x.From]+s.Wait <= x.Day || slices.Contains(s.Infested, x.From)
			if can && carries[k] && !slices.Contains(guards, k) && x.Day < days[x.To] {
				days[x.To], changed = x.Day, true
			}
		}
	}
	for k := range days {
		if slices.Contains(s.Infested, k) {
			days[k] = 0
		}
		if days[k] == late {
			days[k] = -1
		}
	}
	return days
}

func plainKeeps(s api.BaneSea, guards []int) bool {
	days, _ := plainFirst(s, guards)
	for _, k := range s.Clean {
		if days[k] >= 0 {
			return false
		}
	}
	return true
}

func within(r *rand.Rand, s api.Span) int { return s.Low + r.Intn(s.High-s.Low+1) }

// randomSpan returns a span from 0 to most, of at most so many numbers.
func randomSpan(r *rand.Rand, most, numbers int) api.Span {
	low := r.Intn(most + 1)
	return span(low, min(most, low+r.Intn(numbers)))
}

// randomWeb returns a web with levels of at most some hundreds, in which much rounds; its spans have at most so many numbers.
func randomWeb(r *rand.Rand, kinds, numbers int) api.BaneWeb {
	w := api.BaneWeb{Limit: r.Intn(300)}
	for kind := range kinds {
		f := api.BaneFish{Base: randomSpan(r, 99, numbers), Pass: r.Intn(300), Cost: r.Intn(4)}
		for _, prey := range r.Perm(kind) {
			if r.Intn(3) > 0 {
				f.Bites = append(f.Bites, api.BaneBite{Prey: prey, Share: randomSpan(r, 1000, numbers)})
			}
		}
		w.Fish = append(w.Fish, f)
	}
	return w
}

func anyWeb(r *rand.Rand) api.BaneWeb {
	return randomWeb(r, 1+r.Intn(api.BaneFishes), 1+r.Intn(200))
}

func randomTruth(r *rand.Rand, w api.BaneWeb) api.BaneTruth {
	var t api.BaneTruth
	for _, f := range w.Fish {
		var shares []int
		for _, x := range f.Bites {
			shares = append(shares, within(r, x.Share))
		}
		t.Bases, t.Shares = append(t.Bases, within(r, f.Base)), append(t.Shares, shares)
	}
	return t
}

// randomSet returns strictly increasing numbers below some count, each with a chance of one in odds.
func randomSet(r *rand.Rand, count, odds int) []int {
	var set []int
	for n := range count {
		if r.Intn(odds) == 0 {
			set = append(set, n)
		}
	}
	return set
}

// randomSea returns a sea on which many paths go on: mostly one islet is infested, trips are on few days, often in their order, and sometimes each leads on from the one before.
func randomSea(r *rand.Rand) api.BaneSea {
	s := api.BaneSea{Islets: 2 + r.Intn(api.BaneIslets-1), Wait: r.Intn(3)}
	s.Infested, s.Clean = []int{r.Intn(s.Islets)}, randomSet(r, s.Islets, 4)
	if r.Intn(4) == 0 {
		s.Infested = randomSet(r, s.Islets, 3)
	}
	days, from := 1+r.Intn(20), 0
	for range max(r.Intn(api.BaneTrips+1), r.Intn(api.BaneTrips+1)) {
		if r.Intn(3) == 0 {
			from = r.Intn(s.Islets)
		}
		to := (from + 1 + r.Intn(s.Islets-1)) % s.Islets
		s.Trips = append(s.Trips, api.BaneTrip{Day: r.Intn(days), From: from, To: to, Cost: r.Intn(4)})
		from = to
	}
	if r.Intn(2) == 0 {
		sortDays(s.Trips)
	}
	return s
}

func sortDays(trips []api.BaneTrip) {
	var days []int
	for _, x := range trips {
		days = append(days, x.Day)
	}
	slices.Sort(days)
	for k := range trips {
		trips[k].Day = days[k]
	}
}

func randomCarries(r *rand.Rand, s api.BaneSea) []bool {
	carries := make([]bool, len(s.Trips))
	for k := range carries {
		carries[k] = r.Intn(3) > 0
	}
	return carries
}
