package canoe_test

import (
	"math/rand"
	"slices"
	"testing"

	"motu/api"
	"motu/canoe"
)

// P5.6: a star path that was seen never makes a set greater, of either kind.
func TestOneStarMore(t *testing.T) {
	r := rand.New(rand.NewSource(85))
	less := map[string]int{}
	for range 5000 {
		s := anySea(r)
		log, _ := possibleLog(t, r, s, api.CanoeHours)
		if len(log) == 0 || len(s.Stars) == 0 {
			continue
		}
		k := r.Intn(len(log))
		more := slices.Clone(log)
		log[k].Star, more[k].Star = -1, r.Intn(len(s.Stars))
		wantLess(t, s, log, more, "where", canoe.Where, less)
		wantLess(t, s, log, more, "past", canoe.Past, less)
	}
	if less["where"] < 500 || less["past"] < 500 {
		t.Error(less)
	}
}

// wantLess asks whether all sets of a log are parts of those of another one, and counts those that are less.
func wantLess(t *testing.T, s api.CanoeSea, log, more []api.CanoeHour, name string, sets func(api.CanoeSea, []api.CanoeHour) ([]int, api.Errno), less map[string]int) {
	t.Helper()
	before, e := sets(s, log)
	after, e2 := sets(s, more)
	if e != api.OK || e2 != api.OK && e2 != api.ErrNone {
		t.Fatal(s, log, more, e, e2)
	}
	for k, set := range after {
		if set&^before[k] != 0 {
			t.Fatal(s, log, more, before, after)
		}
		if set != before[k] {
			less[name]++
		}
	}
}

// wantShorter asks whether the best plan of a sea is no longer than that of another one, and reports whether it is shorter.
func wantShorter(t *testing.T, s, before api.CanoeSea, log []api.CanoeHour) bool {
	t.Helper()
	old, e := canoe.Search(before, log, 0)
	plan, e2 := canoe.Search(s, log, 0)
	if e == api.OK && (e2 != api.OK || len(plan) > len(old)) {
		t.Fatal(s, before, log, old, plan, e2)
	}
	return e2 == api.OK && (e != api.OK || len(plan) < len(old))
}

// P5.6: a boat more, or a road more, never makes the best plan longer.
func TestNeverLonger(t *testing.T) {
	r := rand.New(rand.NewSource(86))
	shorter := map[string]int{}
	for range 5000 {
		s := randomSea(r, 1+r.Intn(api.CanoeCells), 1)
		log, _ := possibleLog(t, r, s, 4)
		boat := cloneSea(s)
		boat.Boats = slices.Insert(boat.Boats, r.Intn(2), r.Intn(s.Cells))
		if wantShorter(t, boat, s, log) {
			shorter["boat"]++
		}
		for _, before := range []api.CanoeSea{s, boat} {
			road := cloneSea(before)
			road.Roads[r.Intn(s.Cells)] |= 1 << r.Intn(s.Cells)
			if wantShorter(t, road, before, log) {
				shorter["road"]++
			}
		}
	}
	if shorter["boat"] < 300 || shorter["road"] < 300 {
		t.Error(shorter)
	}
}
