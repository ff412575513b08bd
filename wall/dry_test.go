package wall_test

import (
	"math/rand"
	"slices"
	"testing"

	"motu/api"
	"motu/wall"
)

// P8.3: the chapter's examples, and plans near them.
func TestDryExamples(t *testing.T) {
	for _, x := range []struct {
		name   string
		change func(*api.WallShore)
		plan   []int
		want   []int
	}{
		{"no works", func(s *api.WallShore) {}, noWorks(4), nil},
		{"a wall", func(s *api.WallShore) {}, []int{-1, -1, -1, 0}, []int{3}},
		{"planting", func(s *api.WallShore) {}, []int{1, 1, 1, -1}, []int{2, 3}},
		{"a wall before the first house", func(s *api.WallShore) {}, []int{-1, 1, 0, -1}, []int{2, 3}},
		{"no house", func(s *api.WallShore) { s.Cells[2].Floor = -1 }, []int{1, 1, 1, -1}, []int{3}},
		{"no houses", func(s *api.WallShore) { s.Cells[2].Floor, s.Cells[3].Floor = -1, -1 }, []int{1, 1, 1, -1}, nil},
		{"at the floor", func(s *api.WallShore) { s.Cells[2].Floor = 63 }, noWorks(4), []int{2}},
		{"above the floor by 1", func(s *api.WallShore) { s.Cells[2].Floor = 62 }, noWorks(4), nil},
		{"high floors", func(s *api.WallShore) { s.Cells[0].Floor, s.Cells[1].Floor = 183, 112 }, noWorks(4), []int{0}},
		{"all floors are high", func(s *api.WallShore) {
			s.Cells[0].Floor, s.Cells[1].Floor, s.Cells[2].Floor, s.Cells[3].Floor = 183, 113, 63, 58
		}, noWorks(4), []int{0, 1, 2, 3}},
		{"dry ground", func(s *api.WallShore) { s.Cells[2].Floor, s.Works[0].Rise = 0, 63 }, []int{-1, -1, 0, -1}, []int{2, 3}},
		{"wet ground", func(s *api.WallShore) { s.Cells[2].Floor, s.Works[0].Rise = 0, 62 }, []int{-1, -1, 0, -1}, nil},
	} {
		s := chapterShore()
		x.change(&s)
		if list := dry(t, s, chapterStorm(), x.plan); !slices.Equal(list, x.want) {
			t.Errorf("%s: %v", x.name, list)
		}
	}
}

// P8.3: the chapter's examples, and cells and plans near them.
func TestInwardExamples(t *testing.T) {
	for _, x := range []struct {
		plan []int
		cell int
		want int
		e    api.Errno
	}{
		{noWorks(4), 2, 0, api.ErrNone}, {noWorks(4), 0, 0, api.ErrNone}, {noWorks(4), 3, 0, api.ErrNone},
		{[]int{1, 1, 1, -1}, 0, 2, api.OK}, {[]int{1, 1, 1, -1}, 1, 2, api.OK}, {[]int{1, 1, 1, -1}, 2, 2, api.OK}, {[]int{1, 1, 1, -1}, 3, 3, api.OK},
		{[]int{-1, -1, -1, 0}, 0, 3, api.OK}, {[]int{-1, -1, -1, 0}, 3, 3, api.OK}, {[]int{-1, -1, 0, -1}, 2, 0, api.ErrNone},
		// the house 2 stays dry in its cell, which does not
		{[]int{0, 1, 1, 1}, 1, 3, api.OK}, {[]int{0, 1, 1, 1}, 2, 3, api.OK},
	} {
		s := chapterShore()
		s.Cells[2].Floor = 20
		if n, e := wall.Inward(s, chapterStorm(), x.plan, x.cell); n != x.want || e != x.e {
			t.Error(x, n, e)
		}
	}
	s := chapterShore()
	s.Cells[0].Ground = 5000
	for cell := range s.Cells {
		if n, e := wall.Inward(s, chapterStorm(), noWorks(4), cell); n != cell || e != api.OK {
			t.Error(cell, n, e)
		}
	}
}

// P8.3: each house that is told stays dry in all truths, and no other one does in the worst; the cell to which a house moves stays dry in all truths, and no nearer one does.
func TestDryAllTruths(t *testing.T) {
	r := rand.New(rand.NewSource(117))
	var told [3]int
	for range 2000 {
		s, c := fewTruths(r)
		plan := randomPlan(r, s)
		houses, cells := make([]bool, len(s.Cells)), slices.Repeat([]bool{true}, len(s.Cells))
		for k := range s.Cells {
			houses[k] = s.Cells[k].Floor >= 0
		}
		plainTruths(s, c, func(x api.WallTruth) {
			for k, n := range plainPlay(s, plan, x) {
				houses[k] = houses[k] && n <= s.Cells[k].Floor
				cells[k] = cells[k] && n == 0
			}
		})
		var want []int
		for k, is := range houses {
			if is {
				want = append(want, k)
			}
		}
		if list := dry(t, s, c, plan); !slices.Equal(list, want) {
			t.Fatal(s, c, plan, list, want)
		}
		told[min(2, len(want))]++
		for cell := range s.Cells {
			n, e := wall.Inward(s, c, plan, cell)
			if steps := slices.Index(cells[cell:], true); steps < 0 && (e != api.ErrNone || n != 0) || steps >= 0 && (e != api.OK || n != cell+steps) {
				t.Fatal(s, c, plan, cell, n, e, cells)
			}
		}
	}
	if slices.Min(told[:]) < 300 {
		t.Error(told)
	}
}

// P8.3: in the worst truth just the houses that are told stay dry, and the cell to which a house moves is the first dry one.
func TestDryInWorst(t *testing.T) {
	r := rand.New(rand.NewSource(118))
	moved, stays, none := 0, 0, 0
	for range 5000 {
		s, c := anyShore(r), randomStorm(r, 50)
		plan := randomPlan(r, s)
		var want []int
		water := play(t, s, c, plan, worst(t, s, c))
		for k, n := range water {
			if s.Cells[k].Floor >= 0 && n <= s.Cells[k].Floor {
				want = append(want, k)
			}
		}
		if list := dry(t, s, c, plan); !slices.Equal(list, want) {
			t.Fatal(s, c, plan, list, want)
		}
		cell := r.Intn(len(s.Cells))
		n, e := wall.Inward(s, c, plan, cell)
		switch {
		case e == api.ErrNone:
			none++
			n = len(water)
		case e != api.OK || n < cell || water[n] != 0:
			t.Fatal(s, c, plan, cell, n, e)
		case n == cell:
			stays++
		default:
			moved++
		}
		if slices.Contains(water[cell:n], 0) {
			t.Fatal(s, c, plan, cell, n, e, water)
		}
	}
	if moved < 500 || stays < 500 || none < 500 {
		t.Error(moved, stays, none)
	}
}
