package wall_test

import (
	"cmp"
	"math/rand"
	"slices"
	"testing"

	"motu/api"
	"motu/wall"
)

// P8.4: the chapter's example, and shores near it.
func TestBestExamples(t *testing.T) {
	for _, x := range []struct {
		name   string
		change func(*api.WallShore)
		plan   []int
		cost   int
		e      api.Errno
	}{
		{"the chapter's", func(s *api.WallShore) {}, []int{1, 1, 1, -1}, 60, api.OK},
		{"a house may be wet below its floor", func(s *api.WallShore) { s.Works[1].Calm, s.Works[0].Cost = 18, 100 }, []int{1, 1, 1, 1}, 80, api.OK},
		{"a wall and planting", func(s *api.WallShore) { s.Works[1].Calm = 17 }, []int{-1, 1, 0, -1}, 70, api.OK},
		{"a high wall", func(s *api.WallShore) { s.Works[0].Rise = 63 }, []int{-1, -1, 0, -1}, 50, api.OK},
		{"a wall too low by 1", func(s *api.WallShore) { s.Works[0].Rise = 62 }, []int{1, 1, 1, -1}, 60, api.OK},
		{"a cheap wall", func(s *api.WallShore) { s.Works[0].Cost = 39 }, []int{-1, 1, 0, -1}, 59, api.OK},
		{"as cheap, no work before one", func(s *api.WallShore) { s.Works[0].Cost = 40 }, []int{-1, 1, 0, -1}, 60, api.OK},
		{"all for nothing", func(s *api.WallShore) { s.Works[0].Cost, s.Works[1].Cost = 0, 0 }, []int{-1, 1, 0, -1}, 0, api.OK},
		{"two works alike", func(s *api.WallShore) { s.Works[0] = s.Works[1] }, []int{0, 0, 0, -1}, 60, api.OK},
		{"no works", func(s *api.WallShore) { s.Works = nil }, nil, 0, api.ErrNone},
		{"works that do nothing", func(s *api.WallShore) { s.Works = make([]api.WallWork, 3) }, nil, 0, api.ErrNone},
		{"no works, but high floors", func(s *api.WallShore) { s.Works = nil; s.Cells[2].Floor, s.Cells[3].Floor = 63, 58 }, noWorks(4), 0, api.OK},
		{"a floor too low by 1", func(s *api.WallShore) { s.Works = nil; s.Cells[2].Floor, s.Cells[3].Floor = 62, 58 }, nil, 0, api.ErrNone},
		{"the last floor too low by 1", func(s *api.WallShore) { s.Works = nil; s.Cells[2].Floor, s.Cells[3].Floor = 63, 57 }, nil, 0, api.ErrNone},
		{"no houses", func(s *api.WallShore) { s.Cells[2].Floor, s.Cells[3].Floor = -1, -1 }, noWorks(4), 0, api.OK},
		{"no houses, all for nothing", func(s *api.WallShore) {
			s.Cells[2].Floor, s.Cells[3].Floor, s.Works[0].Cost, s.Works[1].Cost = -1, -1, 0, 0
		}, noWorks(4), 0, api.OK},
		{"just the first house", func(s *api.WallShore) { s.Cells[3].Floor = -1 }, []int{1, 1, 1, -1}, 60, api.OK},
		{"just the first house, with a higher floor", func(s *api.WallShore) { s.Cells[2].Floor, s.Cells[3].Floor = 13, -1 }, []int{-1, 1, 1, -1}, 40, api.OK},
		{"just the last house", func(s *api.WallShore) { s.Cells[2].Floor = -1 }, []int{-1, -1, -1, 0}, 50, api.OK},
		{"a house at the ocean", func(s *api.WallShore) { s.Cells[0].Floor = 100 }, nil, 0, api.ErrNone},
		{"one with a high floor", func(s *api.WallShore) { s.Cells[0].Floor = 158 }, []int{1, 1, 1, -1}, 60, api.OK},
		{"dear works", func(s *api.WallShore) {
			s.Works[1].Cost = api.WallCost
			s.Works[0] = api.WallWork{}
		}, []int{1, 1, 1, -1}, 3 * api.WallCost, api.OK},
	} {
		s := chapterShore()
		x.change(&s)
		if plan, cost, e := wall.Best(s, chapterStorm()); e != x.e || cost != x.cost || !slices.Equal(plan, x.plan) {
			t.Errorf("%s: %v %v %v", x.name, plan, cost, e)
		}
	}
}

// P8.4: works in all cells, at the greatest cost.
func TestBestMost(t *testing.T) {
	s := api.WallShore{Works: []api.WallWork{{Calm: 1}, {Rise: 5000}, {Calm: 100, Cost: api.WallCost}}}
	for range api.WallCells {
		s.Cells = append(s.Cells, api.WallCell{Ground: -5000, Floor: -1})
	}
	s.Cells[6].Ground, s.Cells[6].Floor = 300, 0
	c := api.WallStorm{Tide: exactly(1000)}
	if plan, cost, e := wall.Best(s, c); e != api.OK || cost != 0 || !slices.Equal(plan, []int{-1, -1, -1, -1, -1, -1, 1}) {
		t.Error(plan, cost, e)
	}
	s.Works[1].Rise = 0
	for _, x := range []struct {
		ground int
		plan   []int
		cost   int
		e      api.Errno
	}{
		{299, nil, 0, api.ErrNone}, {300, []int{2, 2, 2, 2, 2, 2, 2}, 7000000, api.OK}, {398, []int{2, 2, 2, 2, 2, 2, 2}, 7000000, api.OK},
		{399, []int{0, 2, 2, 2, 2, 2, 2}, 6000000, api.OK}, {400, []int{-1, 2, 2, 2, 2, 2, 2}, 6000000, api.OK}, {996, []int{-1, -1, -1, 0, 0, 0, 0}, 0, api.OK},
	} {
		s.Cells[6].Ground = x.ground
		if plan, cost, e := wall.Best(s, c); e != x.e || cost != x.cost || !slices.Equal(plan, x.plan) {
			t.Error(x, plan, cost, e)
		}
	}
}

// spared is a plan, how many houses surely stay dry with it, and what it costs.
type spared struct {
	plan         []int
	houses, cost int
}

// plainSpared returns what is spared by each plan.
func plainSpared(s api.WallShore, c api.WallStorm) []spared {
	var all []spared
	for _, plan := range plainPlans(s) {
		all = append(all, spared{plan: plan, houses: len(plainDry(s, c, plan)), cost: plainCost(s, plan)})
	}
	return all
}

// plainFirst returns the best of all that may be taken, and whether there is any: what spares more, or costs less, or comes first.
func plainFirst(all []spared, may func(spared) bool) (spared, bool) {
	var few []spared
	for _, x := range all {
		if may(x) {
			few = append(few, x)
		}
	}
	if len(few) == 0 {
		return spared{}, false
	}
	return slices.MinFunc(few, func(a, b spared) int {
		return cmp.Or(cmp.Compare(b.houses, a.houses), cmp.Compare(a.cost, b.cost), slices.Compare(a.plan, b.plan))
	}), true
}

// wantBest asks for the best of all plans, and returns it.
func wantBest(t *testing.T, s api.WallShore, c api.WallStorm, all []spared) (spared, bool) {
	t.Helper()
	houses := plainHouses(s)
	want, found := plainFirst(all, func(x spared) bool { return x.houses == houses })
	old := cloneShore(s)
	plan, cost, e := wall.Best(s, c)
	if found != (e == api.OK) || !found && e != api.ErrNone || cost != want.cost || !slices.Equal(plan, want.plan) || !sameShore(s, old) {
		t.Fatal(s, c, plan, cost, e, want)
	}
	return want, found
}

// P8.4, P0.8: the best of all plans, with which all houses stay dry.
func TestBestOfAll(t *testing.T) {
	r := rand.New(rand.NewSource(119))
	none, nothing, free, some := 0, 0, 0, 0
	for range 5000 {
		s, c := randomShore(r, 1+r.Intn(5), r.Intn(api.WallWorks+1), 9), randomStorm(r, 9)
		want, found := wantBest(t, s, c, plainSpared(s, c))
		switch {
		case !found:
			none++
		case slices.Max(want.plan) < 0:
			nothing++
		case want.cost == 0:
			free++
		default:
			some++
		}
		if found && !slices.Equal(dry(t, s, c, want.plan), plainDry(s, c, want.plan)) {
			t.Fatal(s, c, want)
		}
	}
	if none < 500 || nothing < 500 || free < 100 || some < 500 {
		t.Error(none, nothing, free, some)
	}
}

// P8.4, P0.8: whatever is true, all houses stay dry with the best plan.
func TestBestInAllTruths(t *testing.T) {
	r := rand.New(rand.NewSource(120))
	built := 0
	for range 2000 {
		s, c := fewTruths(r)
		plan, _, e := wall.Best(s, c)
		if e != api.OK {
			continue
		}
		if slices.Max(plan) >= 0 {
			built++
		}
		plainTruths(s, c, func(x api.WallTruth) {
			for k, n := range plainPlay(s, plan, x) {
				if s.Cells[k].Floor >= 0 && n > s.Cells[k].Floor {
					t.Fatal(s, c, plan, x, k, n)
				}
			}
		})
	}
	if built < 200 {
		t.Error(built)
	}
}

// wantSpare asks for the best of all plans that cost no more than some money, and returns it.
func wantSpare(t *testing.T, s api.WallShore, c api.WallStorm, all []spared, money int) spared {
	t.Helper()
	want, _ := plainFirst(all, func(x spared) bool { return x.cost <= money })
	plan, houses, cost, e := wall.Spare(s, c, money)
	if e != api.OK || houses != want.houses || cost != want.cost || !slices.Equal(plan, want.plan) {
		t.Fatal(s, c, money, plan, houses, cost, e, want)
	}
	return want
}

// P8.4, P8.5: shores with as many cells and works as there can be.
func TestBestOfMost(t *testing.T) {
	r := rand.New(rand.NewSource(121))
	built, lost := 0, 0
	for range 60 {
		s, c := randomShore(r, api.WallCells, api.WallWorks, 9), randomStorm(r, 9)
		for k := range s.Works {
			s.Works[k].Cost = 1 + r.Intn(5)
		}
		all := plainSpared(s, c)
		if want, found := wantBest(t, s, c, all); found && want.cost > 0 {
			built++
		}
		for _, money := range []int{0, 1, 3, 6, 10, 40} {
			if want := wantSpare(t, s, c, all, money); want.houses < plainHouses(s) {
				lost++
			}
		}
	}
	if built < 10 || lost < 100 {
		t.Error(built, lost)
	}
}

// P8.5: the chapter's examples, and money and shores near them.
func TestSpareExamples(t *testing.T) {
	for _, x := range []struct {
		name         string
		change       func(*api.WallShore)
		money        int
		plan         []int
		houses, cost int
	}{
		{"the chapter's", func(s *api.WallShore) {}, 59, []int{-1, -1, -1, 0}, 1, 50},
		{"just enough for one", func(s *api.WallShore) {}, 50, []int{-1, -1, -1, 0}, 1, 50},
		{"not enough for one", func(s *api.WallShore) {}, 49, noWorks(4), 0, 0},
		{"no money", func(s *api.WallShore) {}, 0, noWorks(4), 0, 0},
		{"just enough for all", func(s *api.WallShore) {}, 60, []int{1, 1, 1, -1}, 2, 60},
		{"more than enough", func(s *api.WallShore) {}, 100, []int{1, 1, 1, -1}, 2, 60},
		{"all money", func(s *api.WallShore) {}, 7000000, []int{1, 1, 1, -1}, 2, 60},
		{"no works", func(s *api.WallShore) { s.Works = nil }, 100, noWorks(4), 0, 0},
		{"no works, a high floor", func(s *api.WallShore) { s.Works, s.Cells[2].Floor = nil, 63 }, 100, noWorks(4), 1, 0},
		{"no houses", func(s *api.WallShore) { s.Cells[2].Floor, s.Cells[3].Floor = -1, -1 }, 100, noWorks(4), 0, 0},
		{"all for nothing", func(s *api.WallShore) { s.Works[0].Cost, s.Works[1].Cost = 0, 0 }, 0, []int{-1, 1, 0, -1}, 2, 0},
		{"planting for nothing", func(s *api.WallShore) { s.Works[1].Cost = 0 }, 0, []int{1, 1, 1, -1}, 2, 0},
		{"a house that cannot be spared", func(s *api.WallShore) { s.Cells[0].Floor = 0 }, 100, []int{1, 1, 1, -1}, 2, 60},
		{"a house that always is", func(s *api.WallShore) { s.Cells[0].Floor = 183 }, 49, noWorks(4), 1, 0},
		{"one house is cheaper than the other", func(s *api.WallShore) { s.Works[0].Rise, s.Cells[2].Floor = 0, 13 }, 59, []int{-1, 1, 1, -1}, 1, 40},
	} {
		s := chapterShore()
		x.change(&s)
		if plan, houses, cost, e := wall.Spare(s, chapterStorm(), x.money); e != api.OK || houses != x.houses || cost != x.cost || !slices.Equal(plan, x.plan) {
			t.Errorf("%s: %v %v %v %v", x.name, plan, houses, cost, e)
		}
	}
}

// P8.5: the best of all plans for any money; with enough, it is the best plan, if there is one.
func TestSpareOfAll(t *testing.T) {
	r := rand.New(rand.NewSource(122))
	partly, all := 0, 0
	for range 2000 {
		s, c := randomShore(r, 1+r.Intn(5), r.Intn(api.WallWorks+1), 9), randomStorm(r, 9)
		old, plans := cloneShore(s), plainSpared(s, c)
		for money := range 14 {
			want := wantSpare(t, s, c, plans, money)
			if want.houses < plainHouses(s) && want.houses > 0 && want.cost > 0 {
				partly++
			}
			if want.houses == plainHouses(s) && want.cost > 0 {
				all++
			}
		}
		want := wantSpare(t, s, c, plans, 7000000)
		if plan, cost, e := wall.Best(s, c); e == api.OK && (cost != want.cost || !slices.Equal(plan, want.plan)) || (e == api.OK) != (want.houses == plainHouses(s)) {
			t.Fatal(s, c, plan, cost, e, want)
		}
		if !sameShore(s, old) {
			t.Fatal("changed", s, old)
		}
	}
	if partly < 500 || all < 500 {
		t.Error(partly, all)
	}
}
