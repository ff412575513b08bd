package wall_test

import (
	"math"
	"math/rand"
	"slices"
	"testing"

	"motu/api"
	"motu/wall"
)

// asked is what all functions together are asked.
type asked struct {
	shore       api.WallShore
	storm       api.WallStorm
	plan        []int
	truth       api.WallTruth
	money, cell int
}

// chapterAsked returns what no function refuses.
func chapterAsked() asked {
	return asked{shore: chapterShore(), storm: chapterStorm(), plan: []int{1, 1, 1, -1}, truth: chapterTruth(), money: 59}
}

// errors is what each function returns.
type errors struct{ check, level, play, depths, worst, dry, best, spare, inward api.Errno }

// allBad is what they return for a shore or a class of storms that is not as defined.
var allBad = errors{
	check: api.ErrArg, level: api.ErrArg, play: api.ErrArg, depths: api.ErrArg, worst: api.ErrArg,
	dry: api.ErrArg, best: api.ErrArg, spare: api.ErrArg, inward: api.ErrArg,
}

// badPlan is what they return for a plan that is not as defined.
var badPlan = errors{play: api.ErrArg, depths: api.ErrArg, dry: api.ErrArg, inward: api.ErrArg}

// ask calls all functions, and wants zero values with each error.
func (a asked) ask(t *testing.T) errors {
	t.Helper()
	var x errors
	zero := func(name string, e api.Errno, is bool) {
		t.Helper()
		if e != api.OK && !is {
			t.Errorf("%s: %v with %v", name, a, e)
		}
	}
	x.check = wall.Check(a.shore, a.storm)
	l, e := wall.Level(a.shore, a.storm)
	x.level = e
	zero("Level", e, l == api.Span{})
	list, e := wall.Play(a.shore, a.storm, a.plan, a.truth)
	x.play = e
	zero("Play", e, len(list) == 0)
	spans, e := wall.Depths(a.shore, a.storm, a.plan)
	x.depths = e
	zero("Depths", e, len(spans) == 0)
	w, e := wall.Worst(a.shore, a.storm)
	x.worst = e
	zero("Worst", e, sameTruth(w, api.WallTruth{}))
	list, e = wall.Dry(a.shore, a.storm, a.plan)
	x.dry = e
	zero("Dry", e, len(list) == 0)
	list, cost, e := wall.Best(a.shore, a.storm)
	x.best = e
	zero("Best", e, len(list) == 0 && cost == 0)
	list, houses, cost, e := wall.Spare(a.shore, a.storm, a.money)
	x.spare = e
	zero("Spare", e, len(list) == 0 && houses == 0 && cost == 0)
	cell, e := wall.Inward(a.shore, a.storm, a.plan, a.cell)
	x.inward = e
	zero("Inward", e, cell == 0)
	return x
}

type change struct {
	name   string
	change func(*api.WallShore, *api.WallStorm)
}

// most is as much as can be of everything.
func most(s *api.WallShore, c *api.WallStorm) {
	*s = api.WallShore{Reef: api.WallReef, Loss: exactly(1000)}
	for range 4 {
		s.Cells = append(s.Cells, api.WallCell{Ground: api.WallHeight, Drag: exactly(api.WallHeight), Floor: api.WallHeight})
	}
	for range api.WallWorks {
		s.Works = append(s.Works, api.WallWork{Rise: api.WallHeight, Calm: api.WallHeight, Cost: api.WallCost})
	}
	*c = api.WallStorm{Wind: exactly(api.WallWind), Fetch: exactly(api.WallFetch), Tide: exactly(api.WallHeight)}
}

// goodChanges leave a shore and a class of storms as defined, with as many cells; many reach a bound.
func goodChanges() []change {
	return []change{
		{"as they are", func(s *api.WallShore, c *api.WallStorm) {}},
		{"all of everything", most},
		{"nothing of anything", func(s *api.WallShore, c *api.WallStorm) {
			*s, *c = api.WallShore{Cells: make([]api.WallCell, 4)}, api.WallStorm{}
		}},
		{"lowest ground", func(s *api.WallShore, c *api.WallStorm) { s.Cells[3].Ground = -api.WallHeight }},
		{"highest ground", func(s *api.WallShore, c *api.WallStorm) { s.Cells[3].Ground = api.WallHeight }},
		{"any drag", func(s *api.WallShore, c *api.WallStorm) { s.Cells[0].Drag = span(0, api.WallHeight) }},
		{"no drag", func(s *api.WallShore, c *api.WallStorm) { s.Cells[0].Drag = exactly(0) }},
		{"no house", func(s *api.WallShore, c *api.WallStorm) { s.Cells[2].Floor, s.Cells[3].Floor = -1, -1 }},
		{"a house on the ground", func(s *api.WallShore, c *api.WallStorm) { s.Cells[0].Floor = 0 }},
		{"highest floor", func(s *api.WallShore, c *api.WallStorm) { s.Cells[0].Floor = api.WallHeight }},
		{"no works", func(s *api.WallShore, c *api.WallStorm) { s.Works = nil }},
		{"empty works", func(s *api.WallShore, c *api.WallStorm) { s.Works = []api.WallWork{} }},
		{"all works", func(s *api.WallShore, c *api.WallStorm) { s.Works = make([]api.WallWork, api.WallWorks) }},
		{"highest work", func(s *api.WallShore, c *api.WallStorm) {
			s.Works[1] = api.WallWork{Rise: api.WallHeight, Calm: api.WallHeight, Cost: api.WallCost}
		}},
		{"no reef", func(s *api.WallShore, c *api.WallStorm) { s.Reef = 0 }},
		{"widest reef", func(s *api.WallShore, c *api.WallStorm) { s.Reef = api.WallReef }},
		{"any loss", func(s *api.WallShore, c *api.WallStorm) { s.Loss = span(0, 1000) }},
		{"no wind", func(s *api.WallShore, c *api.WallStorm) { c.Wind = exactly(0) }},
		{"any wind", func(s *api.WallShore, c *api.WallStorm) { c.Wind = span(0, api.WallWind) }},
		{"any fetch", func(s *api.WallShore, c *api.WallStorm) { c.Fetch = span(0, api.WallFetch) }},
		{"any tide", func(s *api.WallShore, c *api.WallStorm) { c.Tide = span(-api.WallHeight, api.WallHeight) }},
		{"tide below", func(s *api.WallShore, c *api.WallStorm) { c.Tide = exactly(-api.WallHeight) }},
	}
}

// badShores are changes that leave the chapter's shore not as defined, each in one place only.
func badShores() []change {
	all := []change{
		{"zero value", func(s *api.WallShore, c *api.WallStorm) { *s = api.WallShore{} }},
		{"nil cells", func(s *api.WallShore, c *api.WallStorm) { s.Cells = nil }},
		{"no cells", func(s *api.WallShore, c *api.WallStorm) { s.Cells = []api.WallCell{} }},
		{"cells", func(s *api.WallShore, c *api.WallStorm) { s.Cells = make([]api.WallCell, api.WallCells+1) }},
		{"works", func(s *api.WallShore, c *api.WallStorm) { s.Works = make([]api.WallWork, api.WallWorks+1) }},
		{"reef below", func(s *api.WallShore, c *api.WallStorm) { s.Reef = -1 }},
		{"reef above", func(s *api.WallShore, c *api.WallStorm) { s.Reef = api.WallReef + 1 }},
		{"loss below", func(s *api.WallShore, c *api.WallStorm) { s.Loss = span(-1, 200) }},
		{"loss is no span", func(s *api.WallShore, c *api.WallStorm) { s.Loss = span(200, 199) }},
		{"loss above", func(s *api.WallShore, c *api.WallStorm) { s.Loss = span(100, 1001) }},
	}
	for k := range 4 {
		all = append(all, badCells(k)...)
	}
	for k := range 2 {
		all = append(all, badWorks(k)...)
	}
	return all
}

func badCells(k int) []change {
	return []change{
		{"ground below", func(s *api.WallShore, c *api.WallStorm) { s.Cells[k].Ground = -api.WallHeight - 1 }},
		{"ground above", func(s *api.WallShore, c *api.WallStorm) { s.Cells[k].Ground = api.WallHeight + 1 }},
		{"drag below", func(s *api.WallShore, c *api.WallStorm) { s.Cells[k].Drag = span(-1, 20) }},
		{"drag is no span", func(s *api.WallShore, c *api.WallStorm) { s.Cells[k].Drag = span(21, 20) }},
		{"drag above", func(s *api.WallShore, c *api.WallStorm) { s.Cells[k].Drag = span(20, api.WallHeight+1) }},
		{"floor below", func(s *api.WallShore, c *api.WallStorm) { s.Cells[k].Floor = -2 }},
		{"floor above", func(s *api.WallShore, c *api.WallStorm) { s.Cells[k].Floor = api.WallHeight + 1 }},
	}
}

func badWorks(k int) []change {
	return []change{
		{"rise below", func(s *api.WallShore, c *api.WallStorm) { s.Works[k].Rise = -1 }},
		{"rise above", func(s *api.WallShore, c *api.WallStorm) { s.Works[k].Rise = api.WallHeight + 1 }},
		{"calm below", func(s *api.WallShore, c *api.WallStorm) { s.Works[k].Calm = -1 }},
		{"calm above", func(s *api.WallShore, c *api.WallStorm) { s.Works[k].Calm = api.WallHeight + 1 }},
		{"cost below", func(s *api.WallShore, c *api.WallStorm) { s.Works[k].Cost = -1 }},
		{"cost above", func(s *api.WallShore, c *api.WallStorm) { s.Works[k].Cost = api.WallCost + 1 }},
	}
}

// badStorms are changes that leave the chapter's class of storms not as defined, each in one place only.
func badStorms() []change {
	return []change{
		{"wind below", func(s *api.WallShore, c *api.WallStorm) { c.Wind = span(-1, 300) }},
		{"wind is no span", func(s *api.WallShore, c *api.WallStorm) { c.Wind = span(301, 300) }},
		{"wind above", func(s *api.WallShore, c *api.WallStorm) { c.Wind = span(300, api.WallWind+1) }},
		{"fetch below", func(s *api.WallShore, c *api.WallStorm) { c.Fetch = span(-1, 300) }},
		{"fetch is no span", func(s *api.WallShore, c *api.WallStorm) { c.Fetch = span(301, 300) }},
		{"fetch above", func(s *api.WallShore, c *api.WallStorm) { c.Fetch = span(300, api.WallFetch+1) }},
		{"tide below", func(s *api.WallShore, c *api.WallStorm) { c.Tide = span(-api.WallHeight-1, 20) }},
		{"tide is no span", func(s *api.WallShore, c *api.WallStorm) { c.Tide = span(-20, -21) }},
		{"tide above", func(s *api.WallShore, c *api.WallStorm) { c.Tide = span(20, api.WallHeight+1) }},
	}
}

// P8.1: what Check returns; no function takes a shore or a class of storms that is not as defined.
func TestCheck(t *testing.T) {
	for _, x := range goodChanges() {
		a := chapterAsked()
		x.change(&a.shore, &a.storm)
		a.plan, a.truth = noWorks(4), plainWorst(a.shore, a.storm)
		if got := a.ask(t); got != (errors{best: got.best, inward: got.inward}) || got.best == api.ErrArg || got.inward == api.ErrArg {
			t.Errorf("%s: %v", x.name, got)
		}
	}
	for _, x := range slices.Concat(badShores(), badStorms()) {
		a := chapterAsked()
		x.change(&a.shore, &a.storm)
		if got := a.ask(t); got != allBad {
			t.Errorf("%s: %v", x.name, got)
		}
		a.plan = noWorks(len(a.shore.Cells))
		if got := a.ask(t); got != allBad {
			t.Errorf("%s, without works: %v", x.name, got)
		}
	}
	for cells := range api.WallCells + 2 {
		a := asked{shore: api.WallShore{Cells: make([]api.WallCell, cells)}, plan: noWorks(cells), truth: api.WallTruth{Drags: make([]int, cells)}}
		want := errors{}
		if cells == 0 || cells > api.WallCells {
			want = allBad
		}
		if got := a.ask(t); got != want {
			t.Error(cells, got)
		}
	}
}

// P8.1 to P8.3: plans that are not as defined.
func TestBadPlans(t *testing.T) {
	for _, plan := range [][]int{
		nil, {}, {-1}, {-1, -1, -1}, {-1, -1, -1, -1, -1}, {-2, -1, -1, -1}, {-1, -1, -1, -2}, {2, -1, -1, -1}, {-1, -1, 2, -1}, {-1, -1, -1, 2},
		{0, math.MinInt, 0, 0}, {0, 0, 0, math.MaxInt}, make([]int, 100000),
	} {
		a := chapterAsked()
		a.plan = plan
		if got := a.ask(t); got != badPlan {
			t.Error(plan, got)
		}
	}
	a := chapterAsked()
	for works := range api.WallWorks + 1 {
		a.shore.Works = make([]api.WallWork, works)
		for kind := -1; kind <= api.WallWorks; kind++ {
			a.plan = []int{-1, -1, kind, -1}
			a.cell = 3
			want := errors{}
			if kind >= works {
				want = badPlan
			}
			if got := a.ask(t); got.play != want.play || got.depths != want.depths || got.dry != want.dry || (got.inward == api.ErrArg) != (want.inward == api.ErrArg) {
				t.Error(works, kind, got)
			}
		}
	}
}

// P8.1: truths that are as defined, and truths that are not.
func TestTruths(t *testing.T) {
	for _, x := range []struct {
		name   string
		change func(*api.WallTruth)
		e      api.Errno
	}{
		{"as it is", func(x *api.WallTruth) {}, api.OK},
		{"worst", func(x *api.WallTruth) { *x = plainWorst(chapterShore(), chapterStorm()) }, api.OK},
		{"mildest", func(x *api.WallTruth) {
			*x = api.WallTruth{Wind: 200, Fetch: 500, Tide: 20, Loss: 200, Drags: []int{20, 30, 40, 20}}
		}, api.OK},
		{"zero value", func(x *api.WallTruth) { *x = api.WallTruth{} }, api.ErrArg},
		{"wind below", func(x *api.WallTruth) { x.Wind = 199 }, api.ErrArg},
		{"wind above", func(x *api.WallTruth) { x.Wind = 301 }, api.ErrArg},
		{"fetch below", func(x *api.WallTruth) { x.Fetch = 499 }, api.ErrArg},
		{"fetch above", func(x *api.WallTruth) { x.Fetch = 1001 }, api.ErrArg},
		{"tide below", func(x *api.WallTruth) { x.Tide = 19 }, api.ErrArg},
		{"tide above", func(x *api.WallTruth) { x.Tide = 51 }, api.ErrArg},
		{"loss below", func(x *api.WallTruth) { x.Loss = 99 }, api.ErrArg},
		{"loss above", func(x *api.WallTruth) { x.Loss = 201 }, api.ErrArg},
		{"nil drags", func(x *api.WallTruth) { x.Drags = nil }, api.ErrArg},
		{"a drag less", func(x *api.WallTruth) { x.Drags = x.Drags[:3] }, api.ErrArg},
		{"a drag more", func(x *api.WallTruth) { x.Drags = append(x.Drags, 15) }, api.ErrArg},
		{"first drag below", func(x *api.WallTruth) { x.Drags[0] = 9 }, api.ErrArg},
		{"first drag above", func(x *api.WallTruth) { x.Drags[0] = 21 }, api.ErrArg},
		{"last drag below", func(x *api.WallTruth) { x.Drags[3] = 9 }, api.ErrArg},
		{"last drag above", func(x *api.WallTruth) { x.Drags[3] = 21 }, api.ErrArg},
		{"tiny", func(x *api.WallTruth) { x.Tide = math.MinInt }, api.ErrArg},
		{"huge", func(x *api.WallTruth) { x.Drags[1] = math.MaxInt }, api.ErrArg},
	} {
		a := chapterAsked()
		x.change(&a.truth)
		if got := a.ask(t); got != (errors{play: x.e}) {
			t.Errorf("%s: %v", x.name, got)
		}
	}
}

// P8.3: cells that are not as defined are told of before it is that no cell stays dry.
func TestBadCells(t *testing.T) {
	for _, x := range []struct {
		cell int
		e    api.Errno
	}{{0, api.OK}, {3, api.OK}, {-1, api.ErrArg}, {4, api.ErrArg}, {math.MinInt, api.ErrArg}, {math.MaxInt, api.ErrArg}} {
		a := chapterAsked()
		a.cell = x.cell
		if got := a.ask(t); got != (errors{inward: x.e}) {
			t.Error(x.cell, got)
		}
		if x.e == api.OK {
			x.e = api.ErrNone
		}
		a.plan = noWorks(4)
		if got := a.ask(t); got != (errors{inward: x.e}) {
			t.Error(x.cell, got)
		}
	}
}

// P8.5: money that is not as defined; how much there can be does not depend on the shore.
func TestBadMoney(t *testing.T) {
	for cells := 1; cells <= 4; cells++ {
		for _, x := range []struct {
			money int
			e     api.Errno
		}{{0, api.OK}, {1, api.OK}, {7000000, api.OK}, {-1, api.ErrArg}, {7000001, api.ErrArg}, {math.MinInt, api.ErrArg}, {math.MaxInt, api.ErrArg}} {
			a := chapterAsked()
			a.shore.Cells = a.shore.Cells[:cells]
			a.money = x.money
			if got := a.ask(t); got.spare != x.e {
				t.Error(cells, x.money, got)
			}
		}
	}
}

// P0.8: whatever the arguments are, the functions return.
func TestAnyArguments(t *testing.T) {
	extremes := []int{math.MinInt, math.MinInt32, -5000, -1, 0, 1, 2, 200, 5000, math.MaxInt32, math.MaxInt}
	var a asked
	begin := func() []*int {
		a = chapterAsked()
		s, c, x := &a.shore, &a.storm, &a.truth
		return []*int{
			&s.Cells[0].Ground, &s.Cells[1].Drag.Low, &s.Cells[1].Drag.High, &s.Cells[2].Floor, &s.Works[0].Rise, &s.Works[1].Calm, &s.Works[1].Cost, &s.Reef, &s.Loss.Low, &s.Loss.High,
			&c.Wind.Low, &c.Wind.High, &c.Fetch.Low, &c.Fetch.High, &c.Tide.Low, &c.Tide.High, &a.plan[0], &a.plan[3], &x.Wind, &x.Drags[1], &a.money, &a.cell,
		}
	}
	for i := range begin() {
		for j := range i + 1 {
			for _, u := range extremes {
				for _, v := range extremes {
					all := begin()
					*all[i], *all[j] = u, v
					wantAny(t, a)
				}
			}
		}
	}
	for n := range 9 {
		a := asked{shore: api.WallShore{Cells: make([]api.WallCell, n), Works: make([]api.WallWork, 8-n)}, plan: make([]int, n), truth: api.WallTruth{Drags: make([]int, n)}, cell: n - 1}
		wantAny(t, a)
		a.shore.Works = nil
		wantAny(t, a)
		wantAny(t, asked{shore: chapterShore(), storm: chapterStorm(), plan: make([]int, n), truth: api.WallTruth{Drags: make([]int, n)}, money: n, cell: n})
	}
}

// wantAny asks for errors that agree with each other.
func wantAny(t *testing.T, a asked) {
	t.Helper()
	got := a.ask(t)
	if got.check == api.ErrArg {
		if got != allBad {
			t.Error(a, got)
		}
		return
	}
	if got.level != api.OK || got.worst != api.OK || got.best != api.OK && got.best != api.ErrNone || got.depths != got.dry {
		t.Error(a, got)
	}
	if got.depths == api.ErrArg && (got.play != api.ErrArg || got.inward != api.ErrArg) || got.depths != api.ErrArg && got.depths != api.OK {
		t.Error(a, got)
	}
	if is := holds(span(0, 7000000), a.money); (got.spare == api.OK) != is || (got.spare == api.ErrArg) == is {
		t.Error(a, got)
	}
	if is := holds(span(0, len(a.shore.Cells)-1), a.cell); got.depths == api.OK && (got.inward == api.ErrArg) == is {
		t.Error(a, got)
	}
}

// R3: nil and empty lists are the same.
func TestNilAndEmpty(t *testing.T) {
	a, b := chapterAsked(), chapterAsked()
	a.shore.Works, b.shore.Works = nil, []api.WallWork{}
	a.plan, b.plan = noWorks(4), noWorks(4)
	if !slices.Equal(allNumbers(a), allNumbers(b)) {
		t.Error(allNumbers(a), allNumbers(b))
	}
}

// R4 and R8: equal calls have equal results, whatever was done to the results of others, and leave their arguments as they are.
func TestRepeated(t *testing.T) {
	r := rand.New(rand.NewSource(110))
	for range 1000 {
		a := asked{shore: anyShore(r), storm: randomStorm(r, 9), money: r.Intn(20)}
		a.plan, a.truth = randomPlan(r, a.shore), randomTruth(r, a.shore, a.storm)
		a.cell = r.Intn(len(a.shore.Cells))
		shore, plan, truth := cloneShore(a.shore), slices.Clone(a.plan), cloneTruth(a.truth)
		first := allNumbers(a)
		again := allNumbers(a)
		if !slices.Equal(first, again) {
			t.Fatal(a, first, again)
		}
		if !sameShore(a.shore, shore) || !slices.Equal(a.plan, plan) || !sameTruth(a.truth, truth) {
			t.Fatal("changed", a, shore, plan, truth)
		}
	}
}

// allNumbers returns all that is told, as numbers, and spoils the lists in which it was told.
func allNumbers(a asked) []int {
	l, e := wall.Level(a.shore, a.storm)
	told := []int{l.Low, l.High, int(e)}
	spoil := func(list []int, numbers ...int) {
		told = append(append(told, list...), numbers...)
		for k := range list {
			list[k] = -7
		}
	}
	list, e := wall.Play(a.shore, a.storm, a.plan, a.truth)
	spoil(list, int(e))
	spans, e := wall.Depths(a.shore, a.storm, a.plan)
	for k, s := range spans {
		told = append(told, s.Low, s.High)
		spans[k] = span(-7, -7)
	}
	w, e2 := wall.Worst(a.shore, a.storm)
	spoil(w.Drags, w.Wind, w.Fetch, w.Tide, w.Loss, int(e), int(e2))
	list, e = wall.Dry(a.shore, a.storm, a.plan)
	spoil(list, int(e))
	list, cost, e := wall.Best(a.shore, a.storm)
	spoil(list, cost, int(e))
	list, houses, cost, e := wall.Spare(a.shore, a.storm, a.money)
	spoil(list, houses, cost, int(e))
	cell, e := wall.Inward(a.shore, a.storm, a.plan, a.cell)
	return append(told, cell, int(e))
}
