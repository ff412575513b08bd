package canoe_test

import (
	"math/rand"
	"slices"
	"testing"

	"motu/api"
	"motu/canoe"
)

// chapterSea returns the sea s of the chapter's examples, with boats in some cells.
func chapterSea(boats ...int) api.CanoeSea {
	return api.CanoeSea{
		Cells:   5,
		Start:   cells(1, 2),
		Courses: [][]int{{cells(0, 1), cells(1, 2), cells(2, 3), cells(3, 4), cells(4)}, {cells(0), cells(0), cells(1), cells(2), cells(3)}},
		Stars:   []int{cells(0, 1, 2), cells(2, 3)},
		Boats:   boats,
		Roads:   row(5),
	}
}

// chapterLog returns the log l of the chapter's examples.
func chapterLog() []api.CanoeHour { return []api.CanoeHour{hour(0, -1), hour(0, 1)} }

func hour(course, star int) api.CanoeHour { return api.CanoeHour{Course: course, Star: star} }

// cells returns the set of some cells.
func cells(list ...int) int {
	set := 0
	for _, cell := range list {
		set |= 1 << cell
	}
	return set
}

// row returns for each of some cells in a row the set of its neighbours.
func row(count int) []int {
	var sets []int
	for cell := range count {
		sets = append(sets, (1<<(cell+1)|1<<cell>>1)&(1<<count-1))
	}
	return sets
}

// everywhere returns for each of some cells the set of all of them.
func everywhere(count int) []int { return slices.Repeat([]int{1<<count - 1}, count) }

func cloneSea(s api.CanoeSea) api.CanoeSea {
	s.Courses = cloneLists(s.Courses)
	s.Stars, s.Boats, s.Roads = slices.Clone(s.Stars), slices.Clone(s.Boats), slices.Clone(s.Roads)
	return s
}

func cloneLists(lists [][]int) [][]int {
	lists = slices.Clone(lists)
	for k := range lists {
		lists[k] = slices.Clone(lists[k])
	}
	return lists
}

func sameLists(a, b [][]int) bool { return slices.EqualFunc(a, b, slices.Equal) }

func sameSea(a, b api.CanoeSea) bool {
	return a.Cells == b.Cells && a.Start == b.Start && sameLists(a.Courses, b.Courses) &&
		slices.Equal(a.Stars, b.Stars) && slices.Equal(a.Boats, b.Boats) && slices.Equal(a.Roads, b.Roads)
}

func has(set, cell int) bool { return set/(1<<cell)%2 == 1 }

// plainFits is the section 'Seas and logs', written down a second time.
func plainFits(s api.CanoeSea, log []api.CanoeHour, path []int) bool {
	if len(path) != len(log)+1 || !has(s.Start, path[0]) {
		return false
	}
	for k, h := range log {
		if !has(s.Courses[h.Course][path[k]], path[k+1]) || h.Star >= 0 && !has(s.Stars[h.Star], path[k+1]) {
			return false
		}
	}
	return true
}

// lists goes through all lists of so many numbers below some count, in lexicographic order, until it is told to stop.
func lists(length, count int, visit func([]int) bool) {
	list := make([]int, length)
	for visit(slices.Clone(list)) {
		k := length - 1
		for k >= 0 && list[k] == count-1 {
			list[k] = 0
			k--
		}
		if k < 0 {
			return
		}
		list[k]++
	}
}

// plainSets returns both kinds of sets of a log, from all paths that fit it or its beginnings.
func plainSets(s api.CanoeSea, log []api.CanoeHour) (where, past []int) {
	where, past = make([]int, len(log)+1), make([]int, len(log)+1)
	for hours := range where {
		lists(hours+1, s.Cells, func(path []int) bool {
			if !plainFits(s, log[:hours], path) {
				return true
			}
			where[hours] |= 1 << path[hours]
			if hours == len(log) {
				for k, cell := range path {
					past[k] |= 1 << cell
				}
			}
			return true
		})
	}
	return where, past
}

// plainEscapes is what the section 'Searches' says of a path and a plan.
func plainEscapes(s api.CanoeSea, end, drift int, plan [][]int, path []int) bool {
	if len(path) != len(plan)+1 || !has(end, path[0]) {
		return false
	}
	for k, boats := range plan {
		if !has(s.Courses[drift][path[k]], path[k+1]) || slices.Contains(boats, path[k+1]) {
			return false
		}
	}
	return true
}

// plainEscape returns the first path of all that escapes a plan, from a set on.
func plainEscape(s api.CanoeSea, end, drift int, plan [][]int) []int {
	var first []int
	lists(len(plan)+1, s.Cells, func(path []int) bool {
		if plainEscapes(s, end, drift, plan, path) {
			first = path
		}
		return first == nil
	})
	return first
}

// plainIsPlan reports whether boats can go so.
func plainIsPlan(s api.CanoeSea, plan [][]int) bool {
	at := s.Boats
	for _, boats := range plan {
		for k, cell := range boats {
			if cell != at[k] && !has(s.Roads[at[k]], cell) {
				return false
			}
		}
		at = boats
	}
	return true
}

// plainBest returns the best plan of at most so many hours, out of all lists of cells, against all paths; nil if none finds the canoe.
func plainBest(s api.CanoeSea, end, drift, most int) [][]int {
	var best [][]int
	for hours := 1; hours <= most && best == nil && len(s.Boats) > 0; hours++ {
		lists(hours*len(s.Boats), s.Cells, func(list []int) bool {
			plan := slices.Collect(slices.Chunk(list, len(s.Boats)))
			if plainIsPlan(s, plan) && plainEscape(s, end, drift, plan) == nil {
				best = plan
			}
			return best == nil
		})
	}
	return best
}

// sight is boats, the set in which the canoe can be, and how many hours are left.
type sight struct {
	boats [2]int
	set   int
	left  int
}

// solver finds the best plan from its end on: it asks whether the canoe is surely found within the hours that are left.
type solver struct {
	api.CanoeSea
	drift int
	known map[sight]bool
}

// moves returns where boats can be an hour later, in lexicographic order.
func (v solver) moves(at [2]int) [][2]int {
	var all [][2]int
	lists(len(v.Boats), v.Cells, func(list []int) bool {
		to := [2]int{}
		copy(to[:], list)
		for k := range v.Boats {
			if to[k] != at[k] && !has(v.Roads[at[k]], to[k]) {
				return true
			}
		}
		all = append(all, to)
		return true
	})
	return all
}

// onward returns what is left of a set after an hour, at the end of which boats are somewhere.
func (v solver) onward(set int, boats [2]int) int {
	to := 0
	for cell := range v.Cells {
		if has(set, cell) {
			to |= v.Courses[v.drift][cell]
		}
	}
	for k := range v.Boats {
		to &^= 1 << boats[k]
	}
	return to
}

func (v solver) finds(x sight) bool {
	if x.set == 0 || x.left == 0 {
		return x.set == 0
	}
	if is, ok := v.known[x]; ok {
		return is
	}
	is := slices.ContainsFunc(v.moves(x.boats), func(to [2]int) bool {
		return v.finds(sight{boats: to, set: v.onward(x.set, to), left: x.left - 1})
	})
	v.known[x] = is
	return is
}

// solve returns the best plan of at most so many hours; nil if none finds the canoe.
func solve(s api.CanoeSea, end, drift, most int) [][]int {
	v := solver{CanoeSea: s, drift: drift, known: map[sight]bool{}}
	x := sight{set: end}
	copy(x.boats[:], s.Boats)
	for x.left <= most && !v.finds(x) {
		x.left++
	}
	if x.left > most {
		return nil
	}
	var plan [][]int
	for x.left > 0 {
		for _, to := range v.moves(x.boats) {
			if y := (sight{boats: to, set: v.onward(x.set, to), left: x.left - 1}); v.finds(y) {
				x = y
				break
			}
		}
		plan = append(plan, slices.Clone(x.boats[:len(s.Boats)]))
	}
	return plan
}

// randomSet returns a set of some cells, each of which is in it with a chance of one in odds; it has at least one.
func randomSet(r *rand.Rand, count, odds int) int {
	set := 1 << r.Intn(count)
	for cell := range count {
		if r.Intn(odds) == 0 {
			set |= 1 << cell
		}
	}
	return set
}

// randomSea returns a sea with so many cells and boats, on which some canoes are found, some after many hours, and some never.
func randomSea(r *rand.Rand, count, boats int) api.CanoeSea {
	s := api.CanoeSea{Cells: count, Start: randomSet(r, count, 3), Roads: make([]int, count)}
	odds := count * (1 + r.Intn(3))
	for range 1 + r.Intn(api.CanoeCourses) {
		var course []int
		for range count {
			course = append(course, randomSet(r, count, odds))
		}
		s.Courses = append(s.Courses, course)
	}
	for range r.Intn(api.CanoeStars + 1) {
		s.Stars = append(s.Stars, randomSet(r, count, 2))
	}
	for range boats {
		s.Boats = append(s.Boats, r.Intn(count))
	}
	for cell := range count {
		for range r.Intn(3) {
			s.Roads[cell] |= 1 << r.Intn(count)
		}
	}
	if r.Intn(3) == 0 {
		s.Roads = row(count)
	}
	return s
}

func anySea(r *rand.Rand) api.CanoeSea {
	return randomSea(r, 1+r.Intn(api.CanoeCells), r.Intn(api.CanoeBoats+1))
}

// randomLog returns a log of so many hours, in most of which no star path is seen.
func randomLog(r *rand.Rand, s api.CanoeSea, hours int) []api.CanoeHour {
	var log []api.CanoeHour
	for range hours {
		h := hour(r.Intn(len(s.Courses)), -1)
		if len(s.Stars) > 0 && r.Intn(3) == 0 {
			h.Star = r.Intn(len(s.Stars))
		}
		log = append(log, h)
	}
	return log
}

func anyLog(r *rand.Rand, s api.CanoeSea) []api.CanoeHour {
	return randomLog(r, s, r.Intn(api.CanoeHours+1))
}

// possibleLog returns a log of at most so many hours that is possible, and the set after it.
func possibleLog(t *testing.T, r *rand.Rand, s api.CanoeSea, most int) ([]api.CanoeHour, int) {
	t.Helper()
	for {
		log := randomLog(r, s, r.Intn(most+1))
		if sets, e := canoe.Where(s, log); e == api.OK {
			return log, sets[len(log)]
		}
	}
}

// member returns any cell of a set.
func member(r *rand.Rand, set int) int {
	for {
		if cell := r.Intn(api.CanoeCells); has(set, cell) {
			return cell
		}
	}
}

// randomPlan returns a plan of so many hours.
func randomPlan(r *rand.Rand, s api.CanoeSea, hours int) [][]int {
	var plan [][]int
	at := s.Boats
	for range hours {
		at = slices.Clone(at)
		for k, cell := range at {
			at[k] = member(r, s.Roads[cell]|1<<cell)
		}
		plan = append(plan, at)
	}
	return plan
}

// spoil appends lists to what is told, and clears them.
func spoil(told []int, lists ...[]int) []int {
	for _, list := range lists {
		told = append(told, len(list))
		told = append(told, list...)
		clear(list)
	}
	return told
}
