package canoe_test

import (
	"math/rand"
	"slices"
	"testing"

	"motu/api"
	"motu/canoe"
)

// P5.2: the chapter's examples, and logs near them.
func TestSets(t *testing.T) {
	full := slices.Repeat([]api.CanoeHour{hour(0, -1)}, api.CanoeHours)
	for _, x := range []struct {
		name        string
		log         []api.CanoeHour
		where, past []int
	}{
		{"chapter's first", chapterLog(), []int{6, 14, 12}, []int{6, 14, 12}},
		{"chapter's second", []api.CanoeHour{hour(0, 0), hour(0, 0)}, []int{6, 6, 6}, []int{6, 6, 6}},
		{"no hours", nil, []int{6}, []int{6}},
		{"no hours, empty", []api.CanoeHour{}, []int{6}, []int{6}},
		{"nothing seen", []api.CanoeHour{hour(0, -1), hour(0, -1)}, []int{6, 14, 30}, []int{6, 14, 30}},
		{"as far as it goes", full, slices.Concat([]int{6, 14}, slices.Repeat([]int{30}, 11)), slices.Concat([]int{6, 14}, slices.Repeat([]int{30}, 11))},
		{"one cell of the start", []api.CanoeHour{hour(1, -1), hour(0, 1)}, []int{6, 3, 4}, []int{4, 2, 4}},
		{"seen at once", []api.CanoeHour{hour(0, 1), hour(1, -1)}, []int{6, 12, 6}, []int{6, 12, 6}},
		{"seen later", []api.CanoeHour{hour(0, -1), hour(1, 1)}, []int{6, 14, 4}, []int{4, 8, 4}},
		{"seen twice", []api.CanoeHour{hour(0, 0), hour(0, 1)}, []int{6, 6, 12}, []int{6, 6, 12}},
		{"hindsight of three hours", []api.CanoeHour{hour(1, -1), hour(0, -1), hour(0, 1)}, []int{6, 3, 7, 12}, []int{6, 3, 6, 12}},
		{"hindsight to the start", []api.CanoeHour{hour(0, -1), hour(0, -1), hour(0, -1), hour(1, 0), hour(1, -1), hour(1, -1)}, []int{6, 14, 30, 30, 5 | 2, 3, 1}, []int{6, 14, 14, 14, 7, 3, 1}},
	} {
		if l, e := canoe.Where(chapterSea(), x.log); e != api.OK || !slices.Equal(l, x.where) {
			t.Errorf("%s: Where: %v %v", x.name, l, e)
		}
		if l, e := canoe.Past(chapterSea(), x.log); e != api.OK || !slices.Equal(l, x.past) {
			t.Errorf("%s: Past: %v %v", x.name, l, e)
		}
	}
}

// P5.2 to P5.4: logs that no path fits, at the end or long before it. Paths are asked for by Fits all the same.
func TestImpossible(t *testing.T) {
	for _, log := range [][]api.CanoeHour{
		{hour(1, 1)},
		{hour(1, -1), hour(1, 1)},
		{hour(1, 1), hour(0, -1), hour(0, -1)},
		append([]api.CanoeHour{hour(1, 1)}, make([]api.CanoeHour, api.CanoeHours-1)...),
	} {
		for _, boats := range [][]int{nil, {0}, {0, 4}} {
			s := chapterSea(boats...)
			if l, e := canoe.Where(s, log); e != api.ErrNone || len(l) != 0 {
				t.Error(log, l, e)
			}
			if l, e := canoe.Past(s, log); e != api.ErrNone || len(l) != 0 {
				t.Error(log, l, e)
			}
			wantSearches(t, "impossible", s, log, 0, api.ErrNone)
			wantSearches(t, "impossible, bad drift", s, log, 2, api.ErrArg)
		}
		if is, e := canoe.Fits(chapterSea(), log, make([]int, len(log)+1)); e != api.OK || is {
			t.Error(log, is, e)
		}
	}
	log := []api.CanoeHour{hour(1, 1)}
	if l, e := canoe.Escape(chapterSea(0), log, 0, [][]int{{2}}); e != api.ErrArg || len(l) != 0 {
		t.Error(l, e)
	}
	if l, e := canoe.Escape(chapterSea(0), log, 0, make([][]int, api.CanoePlan+1)); e != api.ErrLong || len(l) != 0 {
		t.Error(l, e)
	}
}

// P5.2: both kinds of sets against those of all paths.
func TestSetsRandom(t *testing.T) {
	r := rand.New(rand.NewSource(72))
	seen := map[string]int{}
	for range 3000 {
		s := randomSea(r, 1+r.Intn(4), 0)
		log := randomLog(r, s, r.Intn(6))
		where, past := plainSets(s, log)
		want := api.OK
		if where[len(log)] == 0 {
			want, where, past = api.ErrNone, nil, nil
		}
		if l, e := canoe.Where(s, log); e != want || !slices.Equal(l, where) {
			t.Fatal(s, log, l, e, where)
		}
		if l, e := canoe.Past(s, log); e != want || !slices.Equal(l, past) {
			t.Fatal(s, log, l, e, past)
		}
		switch {
		case want != api.OK:
			seen["none"]++
		case slices.Equal(where, past):
			seen["same"]++
		default:
			seen["hindsight"]++
		}
	}
	if seen["none"] < 200 || seen["same"] < 200 || seen["hindsight"] < 200 {
		t.Error(seen)
	}
}

// P5.2: whatever path the canoe truly went, if it fits the log, it was in both sets in each hour.
func TestTruePath(t *testing.T) {
	r := rand.New(rand.NewSource(73))
	seen := 0
	for range 20000 {
		s := anySea(r)
		log := anyLog(r, s)
		path := []int{member(r, s.Start)}
		for k := range log {
			cell := member(r, s.Courses[log[k].Course][path[k]])
			path = append(path, cell)
			if log[k].Star >= 0 && !has(s.Stars[log[k].Star], cell) {
				log[k].Star = -1
			}
		}
		where, e1 := canoe.Where(s, log)
		past, e2 := canoe.Past(s, log)
		if e1 != api.OK || e2 != api.OK || len(where) != len(path) || len(past) != len(path) {
			t.Fatal(s, log, where, e1, past, e2)
		}
		for k, cell := range path {
			if !has(where[k], cell) || !has(past[k], cell) {
				t.Fatal(s, log, path, where, past)
			}
			if past[k] != where[k] {
				seen++
			}
		}
	}
	if seen < 1000 {
		t.Error(seen)
	}
}

// through returns a path that fits a log and is in a cell after some hours: from there each way to the sets with hindsight.
func through(s api.CanoeSea, log []api.CanoeHour, past []int, hours, cell int) []int {
	path := make([]int, len(past))
	path[hours] = cell
	for k := hours; k > 0; k-- {
		for from := range s.Cells {
			if has(past[k-1], from) && has(s.Courses[log[k-1].Course][from], path[k]) {
				path[k-1] = from
			}
		}
	}
	for k := hours; k < len(log); k++ {
		for to := range s.Cells {
			if has(past[k+1], to) && has(s.Courses[log[k].Course][path[k]], to) {
				path[k+1] = to
			}
		}
	}
	return path
}

// P5.2: through each cell of a set with hindsight goes a path that fits the whole log.
func TestHindsightFits(t *testing.T) {
	r := rand.New(rand.NewSource(74))
	for range 3000 {
		s := anySea(r)
		log, _ := possibleLog(t, r, s, api.CanoeHours)
		past, e := canoe.Past(s, log)
		if e != api.OK {
			t.Fatal(s, log, e)
		}
		for hours, set := range past {
			for cell := range s.Cells {
				if !has(set, cell) {
					continue
				}
				path := through(s, log, past, hours, cell)
				if is, e := canoe.Fits(s, log, path); !is || e != api.OK || !plainFits(s, log, path) {
					t.Fatal(s, log, past, path, is, e)
				}
			}
		}
	}
}
