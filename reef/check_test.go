package reef_test

import (
	"math"
	"math/rand"
	"slices"
	"testing"

	"motu/api"
	"motu/reef"
)

type reefChange struct {
	name   string
	change func(*api.Reef)
}

func addPlaces(r *api.Reef, places int) {
	for len(r.Places) < places {
		r.Places = append(r.Places, api.ReefPlace{Into: -1})
	}
}

// goodReefs are changes that leave the chapter's reef as defined; many reach a bound.
func goodReefs() []reefChange {
	return []reefChange{
		{"as it is", func(r *api.Reef) {}},
		{"one place", func(r *api.Reef) { r.Places, r.Places[0].Into = r.Places[:1], -1 }},
		{"all places", func(r *api.Reef) { addPlaces(r, api.ReefPlaces); r.Places[0].Into, r.Places[3].Into = 3, 2 }},
		{"into each other", func(r *api.Reef) { r.Places[1].Into = 0 }},
		{"into the first", func(r *api.Reef) { r.Places[0].Into, r.Places[1].Into = -1, 0 }},
		{"no miss", func(r *api.Reef) { r.Miss = 0 }},
		{"greatest miss", func(r *api.Reef) { r.Miss = api.ReefRate }},
		{"one season", func(r *api.Reef) { r.Seasons = 1 }},
		{"all seasons", func(r *api.Reef) { r.Seasons = api.ReefSeasons }},
		{"nothing there", func(r *api.Reef) { r.Places[0] = api.ReefPlace{Into: 1} }},
		{"all there", func(r *api.Reef) {
			p := &r.Places[1]
			p.Count, p.Room, p.Goal, p.Worth = api.ReefFish, api.ReefFish, api.ReefFish, api.ReefWorth
		}},
		{"count above room", func(r *api.Reef) { r.Places[0].Room = 10 }},
		{"goal above room", func(r *api.Reef) { r.Places[0].Goal = 2001 }},
		{"any growth", func(r *api.Reef) { r.Places[0].Grow = span(0, api.ReefRate) }},
		{"all drift", func(r *api.Reef) { r.Places[1].Drift = 1000 }},
		{"none drifts", func(r *api.Reef) { r.Places[0].Drift = 0 }},
		{"any takes", func(r *api.Reef) { r.Places[1].Open, r.Places[1].Shut = span(0, api.ReefFish), span(0, api.ReefFish) }},
		{"shut as open", func(r *api.Reef) { r.Places[0].Shut = r.Places[0].Open }},
		{"shut reaches into open", func(r *api.Reef) { r.Places[0].Shut = span(150, 250) }},
	}
}

// badReefs are changes that leave the chapter's reef not as defined, each in one place only.
func badReefs() []reefChange {
	all := []reefChange{
		{"zero value", func(r *api.Reef) { *r = api.Reef{} }},
		{"nil places", func(r *api.Reef) { r.Places = nil }},
		{"no places", func(r *api.Reef) { r.Places = []api.ReefPlace{} }},
		{"places", func(r *api.Reef) { addPlaces(r, api.ReefPlaces+1) }},
		{"miss below", func(r *api.Reef) { r.Miss = -1 }},
		{"miss above", func(r *api.Reef) { r.Miss = api.ReefRate + 1 }},
		{"no seasons", func(r *api.Reef) { r.Seasons = 0 }},
		{"seasons below", func(r *api.Reef) { r.Seasons = -1 }},
		{"seasons", func(r *api.Reef) { r.Seasons = api.ReefSeasons + 1 }},
		{"tiny", func(r *api.Reef) { r.Miss, r.Seasons = math.MinInt, math.MinInt }},
		{"huge", func(r *api.Reef) { r.Miss, r.Seasons = math.MaxInt, math.MaxInt }},
		{"alone, into the next", func(r *api.Reef) { r.Places = r.Places[:1] }},
	}
	for k := range 2 {
		all = append(all, badPlaces(k)...)
		all = append(all, badTakes(k)...)
	}
	return all
}

func badPlaces(k int) []reefChange {
	return []reefChange{
		{"count below", func(r *api.Reef) { r.Places[k].Count = -1 }},
		{"count above", func(r *api.Reef) { r.Places[k].Count = api.ReefFish + 1 }},
		{"room below", func(r *api.Reef) { r.Places[k].Room = -1 }},
		{"room above", func(r *api.Reef) { r.Places[k].Room = api.ReefFish + 1 }},
		{"goal below", func(r *api.Reef) { r.Places[k].Goal = -1 }},
		{"goal above", func(r *api.Reef) { r.Places[k].Goal = api.ReefFish + 1 }},
		{"worth below", func(r *api.Reef) { r.Places[k].Worth = -1 }},
		{"worth above", func(r *api.Reef) { r.Places[k].Worth = api.ReefWorth + 1 }},
		{"growth below", func(r *api.Reef) { r.Places[k].Grow = span(-1, 200) }},
		{"growth is no span", func(r *api.Reef) { r.Places[k].Grow = span(201, 200) }},
		{"growth above", func(r *api.Reef) { r.Places[k].Grow = span(100, api.ReefRate+1) }},
		{"drift below", func(r *api.Reef) { r.Places[k].Drift = -1 }},
		{"drift above", func(r *api.Reef) { r.Places[k].Drift = 1001 }},
		{"into itself", func(r *api.Reef) { r.Places[k].Into = k }},
		{"into none", func(r *api.Reef) { r.Places[k].Into = 2 }},
		{"into below", func(r *api.Reef) { r.Places[k].Into = -2 }},
	}
}

func badTakes(k int) []reefChange {
	return []reefChange{
		{"open below", func(r *api.Reef) { r.Places[k].Open, r.Places[k].Shut = span(-1, 100), span(-1, 20) }},
		{"open is no span", func(r *api.Reef) { r.Places[k].Open = span(101, 100) }},
		{"open above", func(r *api.Reef) { r.Places[k].Open = span(100, api.ReefFish+1) }},
		{"shut below", func(r *api.Reef) { r.Places[k].Shut = span(-1, 20) }},
		{"shut is no span", func(r *api.Reef) { r.Places[k].Shut = span(21, 20) }},
		{"shut above", func(r *api.Reef) {
			r.Places[k].Open, r.Places[k].Shut = span(100, api.ReefFish+1), span(100, api.ReefFish+1)
		}},
		{"more if shut, at least", func(r *api.Reef) { r.Places[k].Open, r.Places[k].Shut = span(100, 200), span(101, 150) }},
		{"more if shut, at most", func(r *api.Reef) { r.Places[k].Open, r.Places[k].Shut = span(100, 200), span(0, 201) }},
	}
}

// P3.1: what Check returns.
func TestCheck(t *testing.T) {
	for _, x := range goodReefs() {
		r := chapterReef()
		x.change(&r)
		before := cloneReef(r)
		if e := reef.Check(r); e != api.OK {
			t.Errorf("%s: %v", x.name, e)
		}
		if !sameReef(r, before) {
			t.Errorf("%s: the reef was changed", x.name)
		}
	}
	for _, x := range badReefs() {
		r := chapterReef()
		x.change(&r)
		if e := reef.Check(r); e != api.ErrArg {
			t.Errorf("%s: %v", x.name, e)
		}
	}
}

// P3.1 to P3.5: no function takes a reef that Check's section does not allow.
func TestBadReefs(t *testing.T) {
	for _, x := range badReefs() {
		r := chapterReef()
		x.change(&r)
		wantArg(t, x.name, r, []int{0, 0})
		wantArg(t, x.name, r, make([]int, min(9, max(0, r.Seasons))))
		if l, n, e := reef.Best(r); e != api.ErrArg || len(l) != 0 || n != 0 {
			t.Errorf("%s: Best: %v %v %v", x.name, l, n, e)
		}
	}
}

// P3.1 to P3.5: nor a plan that is not as defined.
func TestBadPlans(t *testing.T) {
	for _, plan := range [][]int{nil, {}, {0}, {0, 0, 0}, {0, 0, 0, 0}, {-1, 0}, {0, -1}, {4, 0}, {0, 4}, {math.MinInt, 0}, {0, math.MaxInt}} {
		wantArg(t, "plan", chapterReef(), plan)
	}
	alone := chapterReef()
	alone.Places, alone.Places[0].Into = alone.Places[:1], -1
	wantArg(t, "a place that is not there", alone, []int{0, 2})
	full := chapterReef()
	addPlaces(&full, api.ReefPlaces)
	wantArg(t, "a place too many", full, []int{0, 16})
	for _, x := range []struct {
		r    api.Reef
		plan []int
	}{{chapterReef(), []int{3, 3}}, {alone, []int{1, 1}}, {full, []int{15, 15}}} {
		if _, e := reef.Stocks(x.r, x.plan); e != api.OK {
			t.Error(x.plan, e)
		}
	}
}

// wantArg asks for ErrArg, with zero values, of all that takes a plan.
func wantArg(t *testing.T, name string, r api.Reef, plan []int) {
	t.Helper()
	if l, x, e := reef.Play(r, plan, chapterTruth()); e != api.ErrArg || len(l) != 0 || x != (api.ReefLedger{}) {
		t.Errorf("%s %v: Play: %v %v %v", name, plan, l, x, e)
	}
	if l, e := reef.Stocks(r, plan); e != api.ErrArg || len(l) != 0 {
		t.Errorf("%s %v: Stocks: %v %v", name, plan, l, e)
	}
	if l, e := reef.Counts(r, plan); e != api.ErrArg || len(l) != 0 {
		t.Errorf("%s %v: Counts: %v %v", name, plan, l, e)
	}
	if k, n, e := reef.Short(r, plan); e != api.ErrArg || k != 0 || n != 0 {
		t.Errorf("%s %v: Short: %v %v %v", name, plan, k, n, e)
	}
	if n, e := reef.Quota(r, plan, 0); e != api.ErrArg || n != 0 {
		t.Errorf("%s %v: Quota: %v %v", name, plan, n, e)
	}
}

// P0.1: whatever the arguments are, the functions return.
func TestAnyArgument(t *testing.T) {
	numbers := []int{math.MinInt, -1, 0, 1, 2, 1000, 1100, api.ReefFish, math.MaxInt}
	fields := func(r *api.Reef, plan []int, x *api.ReefTruth) []*int {
		p := &r.Places[1]
		return []*int{
			&r.Miss, &r.Seasons, &p.Count, &p.Room, &p.Grow.Low, &p.Grow.High, &p.Drift, &p.Into, &p.Open.Low, &p.Open.High, &p.Shut.Low, &p.Shut.High,
			&p.Goal, &p.Worth, &plan[0], &plan[1], &x.Starts[0], &x.Grows[1][1], &x.Takes[0][1],
		}
	}
	r, plan, x := chapterReef(), []int{0, 0}, chapterTruth()
	count := len(fields(&r, plan, &x))
	for a := range count {
		for b := range a + 1 {
			for _, u := range numbers {
				for _, v := range numbers {
					r, plan, x = chapterReef(), []int{0, 0}, chapterTruth()
					all := fields(&r, plan, &x)
					*all[a], *all[b] = u, v
					callAll(t, r, plan, v, x)
				}
			}
		}
	}
	for l := range 7 {
		r = api.Reef{Places: make([]api.ReefPlace, l), Seasons: l}
		x = api.ReefTruth{Starts: make([]int, l), Grows: make([][]int, 6-l), Takes: make([][]int, l)}
		for range 2 {
			callAll(t, r, make([]int, l), l, x)
			callAll(t, chapterReef(), make([]int, l), l, x)
			for k := range r.Places {
				r.Places[k].Into = -1
			}
		}
	}
}

// callAll calls everything; if Check refuses the reef, everything must.
func callAll(t *testing.T, r api.Reef, plan []int, place int, x api.ReefTruth) {
	t.Helper()
	e := reef.Check(r)
	_, _, e1 := reef.Play(r, plan, x)
	_, e2 := reef.Stocks(r, plan)
	_, e3 := reef.Counts(r, plan)
	_, _, e4 := reef.Short(r, plan)
	_, e5 := reef.Quota(r, plan, place)
	_, _, e6 := reef.Best(r)
	if e != api.OK {
		if e != api.ErrArg || e1 != e || e2 != e || e3 != e || e4 != e || e5 != e || e6 != e {
			t.Error(r, plan, place, e, e1, e2, e3, e4, e5, e6)
		}
		return
	}
	bad := e2 != api.OK
	if bad && (e1 != api.ErrArg || e2 != api.ErrArg || e4 != api.ErrArg || e5 != api.ErrArg) || e2 != e3 || e6 != api.OK && e6 != api.ErrNone {
		t.Error(r, plan, place, e1, e2, e3, e4, e5, e6)
	}
	if !bad && e4 != api.OK && e4 != api.ErrNone {
		t.Error(r, plan, place, e4)
	}
}

// R4 and R8: equal calls have equal results, whatever was done to the results of others, and leave their arguments as they are.
func TestRepeated(t *testing.T) {
	r := rand.New(rand.NewSource(31))
	for range 300 {
		x := randomReef(r, 1+r.Intn(4), 1+r.Intn(2), 9)
		plan := randomPlan(r, x)
		truth := randomTruth(r, x, plan)
		oldReef, oldPlan, oldTruth := cloneReef(x), slices.Clone(plan), cloneTruth(truth)
		first := allNumbers(x, plan, truth)
		again := allNumbers(x, plan, truth)
		if !slices.Equal(first, again) {
			t.Fatal(x, plan, truth, first, again)
		}
		if !sameReef(x, oldReef) || !slices.Equal(plan, oldPlan) || !sameTruth(truth, oldTruth) {
			t.Fatal("changed", x, plan, truth)
		}
	}
}

// allNumbers returns all that is told of a reef, as numbers, and spoils the lists in which it was told: first each row by appending to it, which must not reach into the next one.
func allNumbers(x api.Reef, plan []int, truth api.ReefTruth) []int {
	var told []int
	ends, ledger, _ := reef.Play(x, plan, truth)
	for _, row := range ends {
		_ = append(row, -7)
	}
	for _, row := range ends {
		told = append(told, row...)
		clear(row)
	}
	told = append(told, ledger.Start, ledger.Grown, ledger.Taken, ledger.Gone, ledger.Left)
	for _, tell := range []func(api.Reef, []int) ([][]api.Span, api.Errno){reef.Stocks, reef.Counts} {
		rows, _ := tell(x, plan)
		for _, row := range rows {
			_ = append(row, span(-7, -7))
		}
		for _, row := range rows {
			for _, s := range row {
				told = append(told, s.Low, s.High)
			}
			clear(row)
		}
	}
	place, by, e := reef.Short(x, plan)
	best, cost, e2 := reef.Best(x)
	told = append(told, place, by, int(e), cost, int(e2))
	told = append(told, best...)
	clear(best)
	for k := range x.Places {
		quota, e := reef.Quota(x, plan, k)
		told = append(told, quota, int(e))
	}
	return told
}
