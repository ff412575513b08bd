package canoe_test

import (
	"math/rand"
	"slices"
	"testing"

	"motu/api"
	"motu/canoe"
)

// still returns the sea of a canoe that stays where it is by the course 0, and comes to a neighbour by the course 1; cells are in a row.
func still(count, start int, boats ...int) api.CanoeSea {
	stays := make([]int, count)
	for cell := range stays {
		stays[cell] = 1 << cell
	}
	return api.CanoeSea{Cells: count, Start: start, Courses: [][]int{stays, row(count)}, Boats: boats, Roads: row(count)}
}

// around returns the sea of a canoe that goes around, one cell an hour.
func around(count, start int, boats ...int) api.CanoeSea {
	s := still(count, start, boats...)
	s.Courses = [][]int{nil}
	for cell := range count {
		s.Courses[0] = append(s.Courses[0], 1<<((cell+1)%count))
	}
	return s
}

// with returns a sea with other roads.
func with(s api.CanoeSea, roads []int) api.CanoeSea {
	s.Roads = roads
	return s
}

// P5.3: the chapter's examples, and seas whose plans can be told by hand.
func TestSearch(t *testing.T) {
	l := chapterLog()
	atTwo := []api.CanoeHour{hour(1, -1), hour(0, 1)}
	for _, x := range []struct {
		name  string
		s     api.CanoeSea
		log   []api.CanoeHour
		drift int
		want  [][]int
	}{
		{"chapter's first", chapterSea(0), l, 0, [][]int{{1}, {2}, {3}, {4}}},
		{"chapter's second", chapterSea(0), l, 1, [][]int{{1}, {1}}},
		{"chapter's third", chapterSea(0, 4), l, 0, [][]int{{1, 3}, {2, 3}, {1, 4}}},
		{"the other boat first", chapterSea(4, 0), l, 0, [][]int{{3, 1}, {3, 2}, {4, 1}}},
		{"no log", chapterSea(0), nil, 1, [][]int{{0}, {0}}},
		{"from the right", chapterSea(4), l, 0, [][]int{{3}, {2}, {3}, {4}}},
		{"found by two at once", chapterSea(2, 3), atTwo, 0, [][]int{{2, 3}}},
		{"found by two at once, the other way", chapterSea(3, 2), atTwo, 0, [][]int{{2, 3}}},
		{"both in a cell", chapterSea(1, 1), []api.CanoeHour{hour(1, -1), hour(1, -1)}, 1, [][]int{{0, 0}}},
		{"it stays, and a boat is there", still(3, cells(1), 1), nil, 0, [][]int{{1}}},
		{"it stays next to the boat", still(3, cells(1), 0), nil, 0, [][]int{{1}}},
		{"it stays in one of two cells", still(3, cells(0, 2), 0), nil, 0, [][]int{{0}, {1}, {2}}},
		{"in its cell at first, but it goes", still(3, cells(1), 1), nil, 1, [][]int{{0}, {1}}},
		{"they change places", still(2, cells(1), 0), nil, 1, [][]int{{0}}},
		{"two who go on miss each other", around(2, cells(0, 1), 0), nil, 0, [][]int{{0}, {0}}},
		{"one who waits is met by all", around(5, 31, 0), nil, 0, [][]int{{0}, {0}, {0}, {0}, {0}}},
		{"two who wait", around(5, 31, 0, 2), nil, 0, [][]int{{0, 2}, {0, 2}, {0, 1}}},
		{"two who go to wait", around(6, 63, 0, 0), nil, 0, [][]int{{0, 1}, {0, 0}, {0, 0}, {0, 0}, {0, 0}}},
		{"one cell", around(1, 1, 0), nil, 0, [][]int{{0}}},
		{"one cell, two boats", around(1, 1, 0, 0), nil, 0, [][]int{{0, 0}}},
		{"roads one way", with(still(4, cells(0, 3), 1), []int{cells(3), cells(2), cells(0), 0}), nil, 0, [][]int{{2}, {0}, {3}}},
		{"no roads", with(around(3, 7, 1), []int{0, 0, 0}), nil, 0, [][]int{{1}, {1}, {1}}},
	} {
		if plan, e := canoe.Search(x.s, x.log, x.drift); e != api.OK || !sameLists(plan, x.want) {
			t.Errorf("%s: %v %v", x.name, plan, e)
		}
	}
}

// P5.3: seas on which no plan finds the canoe.
func TestSearchOpen(t *testing.T) {
	for _, x := range []struct {
		name  string
		s     api.CanoeSea
		drift int
	}{
		{"no boats", chapterSea(), 0},
		{"no boats, one cell", around(1, 1), 0},
		{"no road to where it stays", with(still(3, cells(2), 0), []int{cells(1), 0, 0}), 0},
		{"no road for either boat", with(still(3, cells(2), 0, 1), []int{cells(1), cells(0), 0}), 0},
		{"it can go anywhere", api.CanoeSea{Cells: 3, Start: 1, Courses: [][]int{everywhere(3)}, Boats: []int{0, 1}, Roads: everywhere(3)}, 0},
		{"in a ring", api.CanoeSea{Cells: 4, Start: 1, Courses: [][]int{{10, 5, 10, 5}}, Boats: []int{0}, Roads: everywhere(4)}, 0},
	} {
		if plan, e := canoe.Search(x.s, nil, x.drift); e != api.ErrOpen || len(plan) != 0 {
			t.Errorf("%s: %v %v", x.name, plan, e)
		}
	}
}

// P5.3: a canoe must go to a neighbour in each hour, a boat can go anywhere. It is known that this takes twice as many hours as there are cells between the ends.
func TestSearchRow(t *testing.T) {
	for count := 3; count <= api.CanoeCells; count++ {
		s := with(still(count, 1<<count-1, 0), everywhere(count))
		plan, e := canoe.Search(s, nil, 1)
		if e != api.OK || len(plan) != 2*(count-2) {
			t.Error(count, plan, e)
		}
	}
	for count, want := range map[int][][]int{5: {{1}, {2}, {3}, {1}, {2}, {3}}, 6: {{1}, {2}, {3}, {4}, {4}, {3}, {2}, {1}}} {
		s := with(still(count, 1<<count-1, 0), everywhere(count))
		if plan, e := canoe.Search(s, nil, 1); e != api.OK || !sameLists(plan, want) {
			t.Error(plan, e)
		}
	}
}

// longSea returns a sea on which the best plan is as long as a plan may be, or just too long, as the canoe begins.
func longSea(start int) api.CanoeSea {
	return api.CanoeSea{
		Cells: 10, Start: start,
		Courses: [][]int{{513, 536, 40, 656, 96, 2, 768, 709, 133, 777}},
		Boats:   []int{6, 6},
		Roads:   []int{640, 0, 178, 515, 419, 67, 32, 518, 240, 890},
	}
}

// P5.3: the longest plans.
func TestSearchLong(t *testing.T) {
	s := longSea(cells(2))
	plan, e := canoe.Search(s, nil, 0)
	if e != api.OK || len(plan) != api.CanoePlan || !sameLists(plan, solve(s, s.Start, 0, api.CanoePlan)) {
		t.Error(plan, e)
	}
	if path, e := canoe.Escape(s, nil, 0, plan); e != api.ErrState || len(path) != 0 {
		t.Error(path, e)
	}
	s = longSea(cells(1))
	if plan, e := canoe.Search(s, nil, 0); e != api.ErrOpen || len(plan) != 0 {
		t.Error(plan, e)
	}
	if plan := solve(s, s.Start, 0, api.CanoePlan+1); len(plan) != api.CanoePlan+1 {
		t.Error(plan)
	}
}

// P5.3: best plans of small seas, against all plans and all paths.
func TestSearchAll(t *testing.T) {
	r := rand.New(rand.NewSource(75))
	seen := map[int]int{}
	for range 1500 {
		boats := r.Intn(3)
		s := randomSea(r, 1+r.Intn(4-boats/2), boats)
		most := 4 - boats/2
		log, end := possibleLog(t, r, s, 3)
		drift := r.Intn(len(s.Courses))
		want := plainBest(s, end, drift, most)
		plan, e := canoe.Search(s, log, drift)
		if want != nil && (e != api.OK || !sameLists(plan, want)) || want == nil && e == api.OK && len(plan) <= most || e != api.OK && e != api.ErrOpen {
			t.Fatal(s, log, drift, plan, e, want)
		}
		seen[10*boats+len(want)]++
	}
	for _, kind := range []int{0, 10, 11, 12, 13, 20, 21, 22} {
		if seen[kind] < 10 {
			t.Error(kind, seen)
		}
	}
}

// P5.3: best plans of greater seas, against those that are found from their end on.
func TestSearchRandom(t *testing.T) {
	r := rand.New(rand.NewSource(76))
	seen := map[int]int{}
	for range 4000 {
		s := randomSea(r, 3+r.Intn(6), 1+r.Intn(2))
		log, end := possibleLog(t, r, s, 4)
		drift := r.Intn(len(s.Courses))
		const most = 12
		want := solve(s, end, drift, most)
		plan, e := canoe.Search(s, log, drift)
		if want != nil && (e != api.OK || !sameLists(plan, want)) || want == nil && (e == api.OK && len(plan) <= most || e != api.OK && e != api.ErrOpen) {
			t.Fatal(s, log, drift, plan, e, want)
		}
		if e != api.OK && len(plan) != 0 {
			t.Fatal(s, log, drift, plan, e)
		}
		seen[len(plan)]++
	}
	for hours := range 7 {
		if seen[hours] < 15 {
			t.Error(hours, seen)
		}
	}
}

// P5.3: however a missing canoe drifts, it is found by the best plan.
func TestSearchFinds(t *testing.T) {
	r := rand.New(rand.NewSource(77))
	last := 0
	for range 3000 {
		s := randomSea(r, 2+r.Intn(api.CanoeCells-1), 1+r.Intn(2))
		log, end := possibleLog(t, r, s, api.CanoeHours)
		drift := r.Intn(len(s.Courses))
		plan, e := canoe.Search(s, log, drift)
		if e != api.OK {
			continue
		}
		if !plainIsPlan(s, plan) {
			t.Fatal(s, log, drift, plan)
		}
		for range 20 {
			found, cell := false, member(r, end)
			for k, boats := range plan {
				cell = member(r, s.Courses[drift][cell])
				if found = slices.Contains(boats, cell); found {
					if k == len(plan)-1 && k > 1 {
						last++
					}
					break
				}
			}
			if !found {
				t.Fatal(s, log, drift, plan, cell)
			}
		}
	}
	if last < 1000 {
		t.Error("hardly any canoe is found in the last hour only:", last)
	}
}

// P5.3: no plan that somebody proposes, and that finds the canoe, has fewer hours, nor is it an earlier one of as many.
func TestSearchProposed(t *testing.T) {
	r := rand.New(rand.NewSource(78))
	finding := 0
	for range 3000 {
		s := randomSea(r, 2+r.Intn(6), 1+r.Intn(2))
		log, end := possibleLog(t, r, s, 5)
		drift := r.Intn(len(s.Courses))
		best, e := canoe.Search(s, log, drift)
		for range 10 {
			plan := randomPlan(r, s, 1+r.Intn(6))
			at := end
			for _, boats := range plan {
				at = solver{CanoeSea: s, drift: drift}.onward(at, pair(boats))
			}
			_, e2 := canoe.Escape(s, log, drift, plan)
			if (at == 0) != (e2 == api.ErrState) {
				t.Fatal(s, log, drift, plan, e2)
			}
			if at != 0 {
				continue
			}
			finding++
			if e != api.OK || len(plan) < len(best) || len(plan) == len(best) && slices.Compare(slices.Concat(plan...), slices.Concat(best...)) < 0 {
				t.Fatal(s, log, drift, plan, best, e)
			}
		}
	}
	if finding < 500 {
		t.Error(finding)
	}
}

// pair returns the cells of one or two boats.
func pair(boats []int) [2]int {
	var cells [2]int
	copy(cells[:], boats)
	return cells
}
