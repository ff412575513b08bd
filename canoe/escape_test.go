package canoe_test

import (
	"math"
	"math/rand"
	"slices"
	"testing"

	"motu/api"
	"motu/canoe"
)

// P5.4: the chapter's examples, and plans near them.
func TestEscape(t *testing.T) {
	for _, x := range []struct {
		name  string
		s     api.CanoeSea
		drift int
		plan  [][]int
		want  []int
		e     api.Errno
	}{
		{"chapter's first", chapterSea(0), 0, [][]int{{1}, {2}, {3}}, []int{2, 2, 3, 4}, api.OK},
		{"chapter's second", chapterSea(0), 0, [][]int{{1}, {2}, {3}, {4}}, nil, api.ErrState},
		{"longer than it must be", chapterSea(0), 0, [][]int{{1}, {2}, {3}, {4}, {3}}, nil, api.ErrState},
		{"found on the way", chapterSea(0), 1, [][]int{{1}, {1}, {0}}, nil, api.ErrState},
		{"no hours", chapterSea(0), 0, nil, []int{2}, api.OK},
		{"no hours, empty", chapterSea(2, 3), 0, [][]int{}, []int{2}, api.OK},
		{"the other drift", chapterSea(0), 1, [][]int{{1}}, []int{3, 2}, api.OK},
		{"a boat that stays", chapterSea(0), 1, [][]int{{0}, {0}}, []int{3, 2, 1}, api.OK},
		{"a boat that comes back", chapterSea(0), 1, [][]int{{1}, {0}}, []int{3, 2, 1}, api.OK},
		{"no boats", chapterSea(), 0, [][]int{nil, {}}, []int{2, 2, 2}, api.OK},
		{"two boats", chapterSea(0, 4), 0, [][]int{{1, 3}, {2, 3}}, []int{3, 4, 4}, api.OK},
		{"two boats that find it", chapterSea(0, 4), 0, [][]int{{1, 3}, {2, 3}, {1, 4}}, nil, api.ErrState},
		{"the second boat alone", chapterSea(0, 4), 0, [][]int{{0, 4}, {0, 3}}, []int{2, 2, 2}, api.OK},
		{"both in a cell", chapterSea(3, 3), 1, [][]int{{2, 2}}, []int{2, 1}, api.OK},
		{"just in a boat's cell at first", chapterSea(2), 0, [][]int{{3}}, []int{2, 2}, api.OK},
		{"it changes places with the boat", chapterSea(1), 1, [][]int{{2}, {1}}, []int{2, 1, 0}, api.OK},
		{"it comes to where the boat was", chapterSea(1), 1, [][]int{{2}}, []int{2, 1}, api.OK},
		{"many dead ends", chapterSea(0), 0, [][]int{{0}, {1}, {2}, {3}}, []int{2, 2, 2, 3, 4}, api.OK},
		{"as long as a plan may be", chapterSea(0), 0, slices.Repeat([][]int{{0}}, api.CanoePlan), slices.Repeat([]int{2}, api.CanoePlan+1), api.OK},
	} {
		if path, e := canoe.Escape(x.s, chapterLog(), x.drift, x.plan); e != x.e || !slices.Equal(path, x.want) {
			t.Errorf("%s: %v %v", x.name, path, e)
		}
	}
	// A canoe that stays in the first cell is found in the last hour only.
	if path, e := canoe.Escape(still(4, cells(0, 3), 1), nil, 0, [][]int{{1}, {0}}); e != api.OK || !slices.Equal(path, []int{3, 3, 3}) {
		t.Error(path, e)
	}
}

// P5.4: plans that are not as defined.
func TestBadPlans(t *testing.T) {
	for _, x := range []struct {
		boats []int
		plan  [][]int
	}{
		{[]int{0}, [][]int{{2}}},
		{[]int{0}, [][]int{{1}, {3}}},
		{[]int{0}, [][]int{{1}, {2}, {0}}},
		{[]int{0}, [][]int{{0}, {2}}},
		{[]int{0}, [][]int{{1, 1}}},
		{[]int{0}, [][]int{{}}},
		{[]int{0}, [][]int{nil}},
		{[]int{0}, [][]int{{1}, nil}},
		{[]int{0}, [][]int{{-1}}},
		{[]int{4}, [][]int{{5}}},
		{[]int{0}, [][]int{{math.MinInt}}},
		{[]int{0}, [][]int{{math.MaxInt}}},
		{[]int{0}, [][]int{{1}, {-1}}},
		{[]int{0}, [][]int{{1}, {64}}},
		{nil, [][]int{{0}}},
		{nil, [][]int{{}, {0}}},
		{[]int{0, 4}, [][]int{{1}}},
		{[]int{0, 4}, [][]int{{4, 0}}},
		{[]int{0, 4}, [][]int{{1, 2}}},
		{[]int{0, 4}, [][]int{{1, 3}, {2, 1}}},
		{[]int{0, 4}, [][]int{{1, 3, 2}}},
		{[]int{0, 4}, [][]int{{0, 5}}},
	} {
		if path, e := canoe.Escape(chapterSea(x.boats...), chapterLog(), 0, x.plan); e != api.ErrArg || len(path) != 0 {
			t.Error(x, path, e)
		}
		long := append(slices.Clone(x.plan), make([][]int, api.CanoePlan)...)
		if path, e := canoe.Escape(chapterSea(x.boats...), chapterLog(), 0, long); e != api.ErrLong || len(path) != 0 {
			t.Error(x, path, e)
		}
	}
	// Roads lead one way: from 0 to 1, and from 1 nowhere.
	s := with(still(2, 1, 0), []int{2, 0})
	if path, e := canoe.Escape(s, nil, 0, [][]int{{1}, {0}}); e != api.ErrArg || len(path) != 0 {
		t.Error(path, e)
	}
	if path, e := canoe.Escape(s, nil, 0, [][]int{{1}, {1}}); e != api.OK || !slices.Equal(path, []int{0, 0, 0}) {
		t.Error(path, e)
	}
}

// P5.4: too much of anything is told first.
func TestLongPlans(t *testing.T) {
	stays := slices.Repeat([][]int{{0}}, api.CanoePlan+1)
	long := make([]api.CanoeHour, api.CanoeHours+1)
	for _, x := range []struct {
		s     api.CanoeSea
		log   []api.CanoeHour
		drift int
		plan  [][]int
	}{
		{chapterSea(0), chapterLog(), 0, stays},
		{chapterSea(0), chapterLog(), 2, stays},
		{chapterSea(0), chapterLog(), 0, make([][]int, api.CanoePlan+1)},
		{chapterSea(0), []api.CanoeHour{hour(9, 9)}, 0, stays},
		{api.CanoeSea{}, nil, 0, stays},
		{chapterSea(0), long, 0, [][]int{{4}}},
		{chapterSea(0), long, 0, stays},
	} {
		if path, e := canoe.Escape(x.s, x.log, x.drift, x.plan); e != api.ErrLong || len(path) != 0 {
			t.Error(x, path, e)
		}
	}
}

// P0.1 and P5.4: a canoe can go on millions of millions of ways until it is found in the last hour; nobody can wait until each of them was tried.
func TestEscapeManyWays(t *testing.T) {
	s := with(still(10, 1023, 0), everywhere(10))
	plan := slices.Repeat([][]int{{0}}, 24)
	for _, cell := range []int{1, 2, 3, 4, 5, 6, 7, 8, 8, 7, 6, 5, 4, 3, 2, 1} {
		plan = append(plan, []int{cell})
	}
	if path, e := canoe.Escape(s, nil, 1, plan); e != api.ErrState || len(path) != 0 {
		t.Error(path, e)
	}
	plan[39][0] = 2
	if path, e := canoe.Escape(s, nil, 1, plan); e != api.OK || !plainEscapes(s, 1023, 1, plan, path) {
		t.Error(path, e)
	}
}

// P5.4: against all paths of small seas, and what is told does escape.
func TestEscapeRandom(t *testing.T) {
	r := rand.New(rand.NewSource(79))
	seen := map[bool]int{}
	for range 4000 {
		s := randomSea(r, 1+r.Intn(5), r.Intn(3))
		log, end := possibleLog(t, r, s, 4)
		drift := r.Intn(len(s.Courses))
		plan := randomPlan(r, s, r.Intn(5))
		want, e := plainEscape(s, end, drift, plan), api.OK
		if want == nil {
			e = api.ErrState
		}
		path, got := canoe.Escape(s, log, drift, plan)
		if got != e || !slices.Equal(path, want) {
			t.Fatal(s, log, drift, plan, path, got, want)
		}
		seen[want != nil]++
	}
	if seen[true] < 500 || seen[false] < 500 {
		t.Error(seen)
	}
}

// P5.4: on any sea, with plans of any length: a path that is told escapes; where none is, none that somebody proposes does, and none that is told is after a proposed one.
func TestEscapeProposed(t *testing.T) {
	r := rand.New(rand.NewSource(80))
	seen := map[api.Errno]int{}
	for range 3000 {
		s := anySea(r)
		log, end := possibleLog(t, r, s, api.CanoeHours)
		drift := r.Intn(len(s.Courses))
		plan := randomPlan(r, s, r.Intn(api.CanoePlan+1))
		path, e := canoe.Escape(s, log, drift, plan)
		if e == api.OK != plainEscapes(s, end, drift, plan, path) || e != api.OK && (e != api.ErrState || len(path) != 0) {
			t.Fatal(s, log, drift, plan, path, e)
		}
		seen[e]++
		for range 10 {
			other := []int{member(r, end)}
			for k := range plan {
				other = append(other, member(r, s.Courses[drift][other[k]]))
			}
			if plainEscapes(s, end, drift, plan, other) && (e != api.OK || slices.Compare(other, path) < 0) {
				t.Fatal(s, log, drift, plan, path, e, other)
			}
		}
	}
	if seen[api.OK] < 500 || seen[api.ErrState] < 500 {
		t.Error(seen)
	}
}

// P5.3 and P5.4: the best plan lets no path escape, but without its last hour it does.
func TestBestHasNoEscape(t *testing.T) {
	r := rand.New(rand.NewSource(81))
	seen := 0
	for range 3000 {
		s := randomSea(r, 1+r.Intn(api.CanoeCells), 1+r.Intn(2))
		log, end := possibleLog(t, r, s, api.CanoeHours)
		plan, e := canoe.Search(s, log, 0)
		if e != api.OK {
			continue
		}
		seen++
		if path, e := canoe.Escape(s, log, 0, plan); e != api.ErrState || len(path) != 0 {
			t.Fatal(s, log, plan, path, e)
		}
		less := plan[:len(plan)-1]
		if path, e := canoe.Escape(s, log, 0, less); e != api.OK || !plainEscapes(s, end, 0, less, path) {
			t.Fatal(s, log, less, path, e)
		}
	}
	if seen < 500 {
		t.Error(seen)
	}
}
