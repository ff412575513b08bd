package canoe_test

import (
	"math"
	"math/rand"
	"slices"
	"testing"

	"motu/api"
	"motu/canoe"
)

// change is a change of the chapter's sea, by its name.
type change struct {
	name string
	make func(*api.CanoeSea)
}

// fullSea returns a sea in which there is as much of all as there may be.
func fullSea() api.CanoeSea {
	all := everywhere(api.CanoeCells)
	return api.CanoeSea{
		Cells: api.CanoeCells, Start: all[0],
		Courses: slices.Repeat([][]int{all}, api.CanoeCourses),
		Stars:   slices.Repeat(all[:1], api.CanoeStars),
		Boats:   slices.Repeat([]int{api.CanoeCells - 1}, api.CanoeBoats),
		Roads:   all,
	}
}

// goodSeas are changes that leave the chapter's sea as defined; many reach a bound.
func goodSeas() []change {
	return []change{
		{"as it is", func(s *api.CanoeSea) {}},
		{"one cell", func(s *api.CanoeSea) {
			*s = api.CanoeSea{Cells: 1, Start: 1, Courses: [][]int{{1}, {1}}, Stars: []int{1, 1}, Boats: []int{0}, Roads: []int{0}}
		}},
		{"all there may be", func(s *api.CanoeSea) { *s = fullSea() }},
		{"start anywhere", func(s *api.CanoeSea) { s.Start = 31 }},
		{"start in the first cell", func(s *api.CanoeSea) { s.Start = 1 }},
		{"start in the last cell", func(s *api.CanoeSea) { s.Start = 16 }},
		{"courses to anywhere", func(s *api.CanoeSea) { s.Courses[0], s.Courses[1] = everywhere(5), everywhere(5) }},
		{"many courses", func(s *api.CanoeSea) { s.Courses = append(s.Courses, s.Courses...) }},
		{"stars from anywhere", func(s *api.CanoeSea) { s.Stars[0], s.Stars[1] = 31, 31 }},
		{"roads to nowhere", func(s *api.CanoeSea) { s.Roads = make([]int, 5) }},
		{"roads to anywhere", func(s *api.CanoeSea) { s.Roads = everywhere(5) }},
		{"roads to where they begin", func(s *api.CanoeSea) { s.Roads = []int{1, 2, 4, 8, 16} }},
		{"no boats", func(s *api.CanoeSea) { s.Boats = nil }},
		{"empty boats", func(s *api.CanoeSea) { s.Boats = []int{} }},
		{"two boats", func(s *api.CanoeSea) { s.Boats = []int{4, 0} }},
		{"two boats in a cell", func(s *api.CanoeSea) { s.Boats = []int{4, 4} }},
	}
}

// badSeas are changes that leave the chapter's sea not as defined, each in one place only.
func badSeas() []change {
	all := []change{
		{"zero value", func(s *api.CanoeSea) { *s = api.CanoeSea{} }},
		{"no cells", func(s *api.CanoeSea) { s.Cells = 0 }},
		{"cells below", func(s *api.CanoeSea) { s.Cells = -1 }},
		{"fewer cells", func(s *api.CanoeSea) { s.Cells = 4 }},
		{"more cells", func(s *api.CanoeSea) { s.Cells = 6 }},
		{"one cell, all the rest of five", func(s *api.CanoeSea) { s.Cells = 1 }},
		{"too many cells", func(s *api.CanoeSea) { *s = eleven() }},
		{"tiny cells", func(s *api.CanoeSea) { s.Cells = math.MinInt }},
		{"huge cells", func(s *api.CanoeSea) { s.Cells = math.MaxInt }},
		{"no courses", func(s *api.CanoeSea) { s.Courses = [][]int{} }},
		{"nil courses", func(s *api.CanoeSea) { s.Courses = nil }},
		{"too many courses", func(s *api.CanoeSea) { s.Courses = slices.Repeat(s.Courses[:1], api.CanoeCourses+1) }},
		{"a short course", func(s *api.CanoeSea) { s.Courses[1] = s.Courses[1][:4] }},
		{"a long course", func(s *api.CanoeSea) { s.Courses[0] = append(s.Courses[0], 1) }},
		{"a nil course", func(s *api.CanoeSea) { s.Courses[1] = nil }},
		{"too many stars", func(s *api.CanoeSea) { s.Stars = slices.Repeat(s.Stars[:1], api.CanoeStars+1) }},
		{"too many boats", func(s *api.CanoeSea) { s.Boats = make([]int, api.CanoeBoats+1) }},
		{"short roads", func(s *api.CanoeSea) { s.Roads = s.Roads[:4] }},
		{"long roads", func(s *api.CanoeSea) { s.Roads = append(s.Roads, 1) }},
		{"no roads", func(s *api.CanoeSea) { s.Roads = nil }},
	}
	for _, cell := range []int{-1, 5, 63, 64, math.MinInt, math.MaxInt} {
		all = append(all,
			change{"a boat", func(s *api.CanoeSea) { s.Boats[0] = cell }},
			change{"a second boat", func(s *api.CanoeSea) { s.Boats = append(s.Boats, cell) }})
	}
	for _, set := range []int{-1, 32, 33, math.MinInt, math.MaxInt} {
		all = append(all, badSets(set)...)
		all = append(all, change{"a road", func(s *api.CanoeSea) { s.Roads[0] = set }}, change{"the last road", func(s *api.CanoeSea) { s.Roads[4] = set }})
	}
	return append(all, badSets(0)...)
}

// badSets are changes that put a set where it may not be.
func badSets(set int) []change {
	return []change{
		{"start", func(s *api.CanoeSea) { s.Start = set }},
		{"a course", func(s *api.CanoeSea) { s.Courses[0][0] = set }},
		{"the last course", func(s *api.CanoeSea) { s.Courses[1][4] = set }},
		{"a star", func(s *api.CanoeSea) { s.Stars[0] = set }},
		{"the last star", func(s *api.CanoeSea) { s.Stars[1] = set }},
	}
}

// eleven returns a sea that has just too many cells.
func eleven() api.CanoeSea {
	return api.CanoeSea{Cells: api.CanoeCells + 1, Start: 1, Courses: [][]int{everywhere(api.CanoeCells + 1)}, Roads: everywhere(api.CanoeCells + 1)}
}

// P5.1: what Check returns.
func TestCheck(t *testing.T) {
	for _, x := range goodSeas() {
		s := chapterSea(0)
		x.make(&s)
		if e := canoe.Check(s); e != api.OK {
			t.Errorf("%s: %v", x.name, e)
		}
		if l, e := canoe.Where(s, nil); e != api.OK || !slices.Equal(l, []int{s.Start}) {
			t.Errorf("%s: %v %v", x.name, l, e)
		}
	}
	for _, x := range badSeas() {
		s := chapterSea(0)
		x.make(&s)
		if e := canoe.Check(s); e != api.ErrArg {
			t.Errorf("%s: %v", x.name, e)
		}
	}
}

// wantAll asks for an error of all functions to which a sea, a log and a drift are given.
func wantAll(t *testing.T, name string, s api.CanoeSea, log []api.CanoeHour, drift int, want api.Errno) {
	t.Helper()
	if is, e := canoe.Fits(s, log, make([]int, len(log)+1)); e != want || is {
		t.Errorf("%s: Fits: %v %v", name, is, e)
	}
	if l, e := canoe.Where(s, log); e != want || len(l) != 0 {
		t.Errorf("%s: Where: %v %v", name, l, e)
	}
	if l, e := canoe.Past(s, log); e != want || len(l) != 0 {
		t.Errorf("%s: Past: %v %v", name, l, e)
	}
	wantSearches(t, name, s, log, drift, want)
}

func wantSearches(t *testing.T, name string, s api.CanoeSea, log []api.CanoeHour, drift int, want api.Errno) {
	t.Helper()
	if l, e := canoe.Search(s, log, drift); e != want || len(l) != 0 {
		t.Errorf("%s: Search: %v %v", name, l, e)
	}
	if l, e := canoe.Escape(s, log, drift, nil); e != want || len(l) != 0 {
		t.Errorf("%s: Escape: %v %v", name, l, e)
	}
}

// P5.1 to P5.4: no function takes a sea that is not as defined.
func TestBadSeas(t *testing.T) {
	for _, x := range badSeas() {
		s := chapterSea(0)
		x.make(&s)
		wantAll(t, x.name, s, nil, 0, api.ErrArg)
		wantAll(t, x.name+", long", s, make([]api.CanoeHour, api.CanoeHours+1), 0, api.ErrLong)
	}
}

// P5.1 to P5.4: no function takes a log that is not as defined; too many hours are told first.
func TestBadLogs(t *testing.T) {
	full := make([]api.CanoeHour, api.CanoeHours)
	for _, bad := range []api.CanoeHour{hour(-1, -1), hour(2, -1), hour(0, -2), hour(0, 2), hour(3, 5), hour(math.MinInt, 0), hour(math.MaxInt, 0), hour(1, math.MinInt), hour(1, math.MaxInt)} {
		for _, log := range [][]api.CanoeHour{{bad}, {bad, hour(0, -1)}, {hour(0, -1), hour(1, 0), bad}, append(slices.Clone(full[1:]), bad)} {
			wantAll(t, "a bad hour", chapterSea(0), log, 0, api.ErrArg)
		}
		wantAll(t, "too many", chapterSea(0), append(slices.Clone(full), bad), 0, api.ErrLong)
		wantAll(t, "too many, the first one bad", chapterSea(0), append([]api.CanoeHour{bad}, full...), 0, api.ErrLong)
	}
	bare := chapterSea(0)
	bare.Stars = nil
	wantAll(t, "no stars", bare, []api.CanoeHour{hour(0, 0)}, 0, api.ErrArg)
	for _, drift := range []int{-1, 2, 3, math.MinInt, math.MaxInt} {
		wantSearches(t, "drift", chapterSea(0), chapterLog(), drift, api.ErrArg)
		wantSearches(t, "drift, long", chapterSea(0), append(full, full...), drift, api.ErrLong)
	}
}

// P5.1: the chapter's examples, and paths that are just none.
func TestFits(t *testing.T) {
	both := []api.CanoeHour{hour(1, 0), hour(0, 1)}
	for _, x := range []struct {
		log  []api.CanoeHour
		path []int
		want bool
	}{
		{chapterLog(), []int{1, 2, 3}, true},
		{chapterLog(), []int{1, 1, 1}, false},
		{chapterLog(), []int{2, 2}, false},
		{chapterLog(), []int{1, 1, 2}, true},
		{chapterLog(), []int{2, 3, 3}, true},
		{chapterLog(), []int{2, 3, 4}, false},
		{chapterLog(), []int{0, 1, 2}, false},
		{chapterLog(), []int{3, 3, 3}, false},
		{chapterLog(), []int{1, 3, 3}, false},
		{chapterLog(), []int{2, 1, 2}, false},
		{chapterLog(), []int{1, 2, 2, 2}, false},
		{chapterLog(), nil, false},
		{chapterLog(), []int{}, false},
		{nil, nil, false},
		{nil, []int{1}, true},
		{nil, []int{2}, true},
		{nil, []int{0}, false},
		{nil, []int{4}, false},
		{nil, []int{1, 1}, false},
		{both, []int{2, 1, 2}, true},
		{both, []int{2, 1, 1}, false},
		{both, []int{1, 0, 1}, false},
		{both, []int{2, 3, 3}, false},
		{[]api.CanoeHour{hour(0, 0)}, []int{2, 3}, false},
		{[]api.CanoeHour{hour(0, 0)}, []int{2, 2}, true},
		{make([]api.CanoeHour, api.CanoeHours), slices.Repeat([]int{2}, api.CanoeHours+1), true},
		{make([]api.CanoeHour, api.CanoeHours), slices.Repeat([]int{2}, api.CanoeHours), false},
		// no path fits this log
		{[]api.CanoeHour{hour(1, -1), hour(1, 1)}, []int{2, 1, 0}, false},
	} {
		if is, e := canoe.Fits(chapterSea(), x.log, x.path); e != api.OK || is != x.want {
			t.Error(x, is, e)
		}
	}
}

// P5.1: paths that are none of the sea, and too long ones.
func TestBadPaths(t *testing.T) {
	long := slices.Repeat([]int{2}, api.CanoeHours+2)
	for _, x := range []struct {
		log  []api.CanoeHour
		path []int
		want api.Errno
	}{
		{chapterLog(), []int{1, 2, 5}, api.ErrArg},
		{chapterLog(), []int{5, 2, 3}, api.ErrArg},
		{chapterLog(), []int{1, -1, 3}, api.ErrArg},
		{chapterLog(), []int{1, 2, 3, 5}, api.ErrArg},
		{chapterLog(), []int{9}, api.ErrArg},
		{chapterLog(), []int{math.MinInt}, api.ErrArg},
		{chapterLog(), []int{math.MaxInt}, api.ErrArg},
		{chapterLog(), long, api.ErrLong},
		{chapterLog(), append([]int{5}, long[1:]...), api.ErrLong},
		{[]api.CanoeHour{hour(9, 9)}, long, api.ErrLong},
		{make([]api.CanoeHour, api.CanoeHours+1), long, api.ErrLong},
		{make([]api.CanoeHour, api.CanoeHours+1), []int{5}, api.ErrLong},
		{[]api.CanoeHour{hour(9, 9)}, []int{1, 1}, api.ErrArg},
		{chapterLog(), long[:api.CanoeHours+1], api.OK},
	} {
		if is, e := canoe.Fits(chapterSea(), x.log, x.path); e != x.want || is {
			t.Error(x, is, e)
		}
	}
	if is, e := canoe.Fits(api.CanoeSea{}, nil, long); e != api.ErrLong || is {
		t.Error(is, e)
	}
}

// P5.1: against the section's words, for paths that fit, or nearly do.
func TestFitsRandom(t *testing.T) {
	r := rand.New(rand.NewSource(70))
	seen := map[bool]int{}
	for range 20000 {
		s := anySea(r)
		log := anyLog(r, s)
		path := []int{member(r, s.Start)}
		for k, h := range log {
			path = append(path, member(r, s.Courses[h.Course][path[k]]))
		}
		if r.Intn(3) == 0 {
			path[r.Intn(len(path))] = r.Intn(s.Cells)
		}
		want := plainFits(s, log, path)
		if is, e := canoe.Fits(s, log, path); e != api.OK || is != want {
			t.Fatal(s, log, path, is, e)
		}
		seen[want]++
	}
	if seen[true] < 2000 || seen[false] < 2000 {
		t.Error(seen)
	}
}

// R2 to R4 and R8: nothing that is given is changed, nothing that is told is kept, and what is asked twice is told twice.
func TestRepeated(t *testing.T) {
	r := rand.New(rand.NewSource(71))
	for range 2000 {
		s := anySea(r)
		log := anyLog(r, s)
		plan := randomPlan(r, s, r.Intn(9))
		oldSea, oldLog, oldPlan := cloneSea(s), slices.Clone(log), cloneLists(plan)
		first := toldOf(s, log, plan)
		if again := toldOf(s, log, plan); !slices.Equal(first, again) {
			t.Fatal(s, log, plan, first, again)
		}
		if !sameSea(s, oldSea) || !slices.Equal(log, oldLog) || !sameLists(plan, oldPlan) {
			t.Fatal("changed", s, log, plan)
		}
	}
}

// toldOf returns all that is told of a sea with a log, as numbers, and spoils the lists in which it was told.
func toldOf(s api.CanoeSea, log []api.CanoeHour, plan [][]int) []int {
	where, e1 := canoe.Where(s, log)
	past, e2 := canoe.Past(s, log)
	best, e3 := canoe.Search(s, log, 0)
	path, e4 := canoe.Escape(s, log, 0, plan)
	told := spoil([]int{int(e1), int(e2), int(e3), int(e4)}, where, past, path)
	return spoil(told, best...)
}

// P0.1: whatever the arguments are, the functions return, and all refuse what Check refuses.
func TestAnything(t *testing.T) {
	numbers := []int{math.MinInt, -1, 0, 1, 3, 4, 5, 10, 31, 32, 63, 64, 65, math.MaxInt}
	fields := func(s *api.CanoeSea, log []api.CanoeHour, list []int) []*int {
		return []*int{&s.Cells, &s.Start, &s.Courses[1][2], &s.Stars[1], &s.Boats[0], &s.Roads[0], &log[1].Course, &log[1].Star, &list[0], &list[1]}
	}
	example := chapterSea(0)
	for a := range fields(&example, chapterLog(), []int{1, 2}) {
		for b := range a + 1 {
			for _, u := range numbers {
				for _, v := range numbers {
					s, log, list := chapterSea(0), chapterLog(), []int{1, 2, 3}
					all := fields(&s, log, list)
					*all[a], *all[b] = u, v
					callAll(t, s, log, list, v)
				}
			}
		}
	}
	for n := range 12 {
		s := api.CanoeSea{Cells: n, Start: n, Courses: [][]int{make([]int, n)}, Stars: make([]int, n), Boats: make([]int, 11-n), Roads: make([]int, n)}
		callAll(t, s, make([]api.CanoeHour, n), make([]int, n), n)
		callAll(t, chapterSea(0), make([]api.CanoeHour, n), make([]int, n), n)
	}
}

// callAll calls all functions that take a sea, with a list as a path, and as the cells of boats of a plan.
func callAll(t *testing.T, s api.CanoeSea, log []api.CanoeHour, list []int, drift int) {
	t.Helper()
	var plan [][]int
	for _, cell := range list {
		plan = append(plan, []int{cell})
	}
	e := canoe.Check(s)
	_, e1 := canoe.Fits(s, log, list)
	_, e2 := canoe.Where(s, log)
	_, e3 := canoe.Past(s, log)
	_, e4 := canoe.Search(s, log, drift)
	_, e5 := canoe.Escape(s, log, drift, plan)
	_, e6 := canoe.Escape(s, log, drift, [][]int{list})
	if e != api.OK && (e != api.ErrArg || e1 != e || e2 != e || e3 != e || e4 != e || e5 != e || e6 != e) {
		t.Error(s, log, list, drift, e, e1, e2, e3, e4, e5, e6)
	}
	if e == api.OK && (e2 != e3 || e2 == api.ErrArg && (e1 != e2 || e4 != e2 || e5 != e2)) {
		t.Error(s, log, list, drift, e1, e2, e3, e4, e5, e6)
	}
}
