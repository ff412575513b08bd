package wall_test

import (
	"math/rand"
	"slices"
	"testing"

	"motu/api"
	"motu/wall"
)

// P8.1: the chapter's example, and levels at their roundings.
func TestLevel(t *testing.T) {
	if l := level(t, chapterShore(), chapterStorm()); l != span(84, 293) {
		t.Error(l)
	}
	for _, x := range []struct {
		name  string
		storm api.WallStorm
		reef  int
		loss  api.Span
		want  api.Span
	}{
		{"no storm", api.WallStorm{}, 0, span(0, 0), exactly(0)},
		{"no storm over a reef", api.WallStorm{}, 20, span(0, 1000), exactly(0)},
		{"just the tide", api.WallStorm{Tide: span(-30, 40)}, 3, span(0, 1000), span(-30, 40)},
		{"lowest tide", api.WallStorm{Tide: exactly(-5000)}, 0, span(0, 0), exactly(-5000)},
		{"no wind", api.WallStorm{Fetch: span(0, 10000), Tide: exactly(5)}, 0, span(0, 0), exactly(5)},
		{"no fetch", api.WallStorm{Wind: span(0, 1000), Tide: exactly(5)}, 0, span(0, 0), exactly(5)},
		{"a wave of almost 1", api.WallStorm{Wind: exactly(27), Fetch: exactly(37)}, 0, span(0, 0), exactly(0)},
		{"a wave of 1", api.WallStorm{Wind: exactly(10), Fetch: exactly(100)}, 0, span(0, 0), exactly(1)},
		{"the wave is rounded before the tide", api.WallStorm{Wind: exactly(3), Fetch: exactly(500), Tide: exactly(-2)}, 0, span(0, 0), exactly(-1)},
		{"the greatest wave", api.WallStorm{Wind: span(0, 1000), Fetch: exactly(10000), Tide: exactly(5000)}, 0, span(0, 1000), span(5000, 15000)},
		{"a reef without loss", api.WallStorm{Wind: exactly(1000), Fetch: exactly(10000)}, 20, span(0, 0), exactly(10000)},
		{"a reef that takes all", api.WallStorm{Wind: exactly(1000), Fetch: exactly(10000)}, 1, exactly(1000), exactly(0)},
		{"perhaps all, perhaps nothing", api.WallStorm{Wind: exactly(1000), Fetch: exactly(10000)}, 1, span(0, 1000), span(0, 10000)},
		{"no reef, whatever the loss", api.WallStorm{Wind: exactly(1000), Fetch: exactly(10000)}, 0, exactly(1000), exactly(10000)},
		{"one step", api.WallStorm{Wind: exactly(999), Fetch: exactly(1000)}, 1, exactly(500), exactly(500)},
		{"two steps", api.WallStorm{Wind: exactly(999), Fetch: exactly(1000)}, 2, exactly(500), exactly(250)},
		{"three steps", api.WallStorm{Wind: exactly(999), Fetch: exactly(1000)}, 3, exactly(500), exactly(125)},
		{"four steps", api.WallStorm{Wind: exactly(999), Fetch: exactly(1000)}, 4, exactly(500), exactly(63)},
		{"too low to lose anything", api.WallStorm{Wind: exactly(99), Fetch: exactly(1000)}, 20, exactly(10), exactly(99)},
		{"just high enough", api.WallStorm{Wind: exactly(100), Fetch: exactly(1000)}, 20, exactly(10), exactly(99)},
		{"the tide loses nothing", api.WallStorm{Wind: exactly(100), Fetch: exactly(1000), Tide: exactly(200)}, 1, exactly(500), exactly(250)},
		{"all steps", api.WallStorm{Wind: exactly(1000), Fetch: exactly(10000)}, 20, exactly(1), exactly(9819)},
	} {
		s := chapterShore()
		s.Reef, s.Loss = x.reef, x.loss
		if l := level(t, s, x.storm); l != x.want {
			t.Errorf("%s: %v", x.name, l)
		}
	}
}

// P8.1: each end of the level at the shore is one of some truth, and no truth lies outside.
func TestLevelAllTruths(t *testing.T) {
	r := rand.New(rand.NewSource(111))
	wide := 0
	for range 2000 {
		s, c := randomShore(r, 1, 0, 1), randomStorm(r, 6)
		s.Reef, s.Loss = r.Intn(api.WallReef+1), randomSpan(r, 0, []int{50, 1000}[r.Intn(2)], 9)
		want := span(100000, -100000)
		plainTruths(s, c, func(x api.WallTruth) {
			n := plainLevel(s, x)
			want = span(min(want.Low, n), max(want.High, n))
		})
		l := level(t, s, c)
		if l != want {
			t.Fatal(s, c, l, want)
		}
		if l.High-l.Low > 2 {
			wide++
		}
	}
	if wide < 500 {
		t.Error(wide)
	}
}

// P8.1: whatever is true, the level from which Play begins lies within the bounds, in the greatest storms, too.
func TestLevelPlayed(t *testing.T) {
	r := rand.New(rand.NewSource(112))
	for range 5000 {
		s := api.WallShore{Cells: []api.WallCell{{Ground: -5000, Floor: -1}}, Reef: r.Intn(api.WallReef + 1), Loss: randomSpan(r, 0, 1000, 1001)}
		c := api.WallStorm{Wind: randomSpan(r, 0, 1000, 1001), Fetch: randomSpan(r, 0, 10000, 10001), Tide: randomSpan(r, -5000, 5000, 10001)}
		x := randomTruth(r, s, c)
		n := play(t, s, c, noWorks(1), x)[0] - 5000
		if n != plainLevel(s, x) || !holds(level(t, s, c), n) {
			t.Fatal(s, c, x, n, level(t, s, c))
		}
	}
}

// P8.1: the chapter's example, and truths and plans near it.
func TestPlayExamples(t *testing.T) {
	for _, x := range []struct {
		name   string
		plan   []int
		change func(*api.WallTruth)
		want   []int
	}{
		{"the chapter's", noWorks(4), func(x *api.WallTruth) {}, []int{70, 0, 0, 0}},
		{"planting", []int{1, -1, -1, -1}, func(x *api.WallTruth) {}, []int{45, 0, 0, 0}},
		{"a wall that water runs over", []int{0, -1, -1, -1}, func(x *api.WallTruth) {}, []int{70, 0, 0, 0}},
		{"the worst", noWorks(4), func(x *api.WallTruth) { *x = plainWorst(chapterShore(), chapterStorm()) }, []int{183, 113, 63, 58}},
		{"the worst, with planting", []int{1, 1, 1, -1}, func(x *api.WallTruth) { *x = plainWorst(chapterShore(), chapterStorm()) }, []int{158, 63, 0, 0}},
		{"the worst, with a wall", []int{-1, -1, -1, 0}, func(x *api.WallTruth) { *x = plainWorst(chapterShore(), chapterStorm()) }, []int{183, 113, 63, 0}},
		{"the worst, with walls and planting behind", []int{0, 0, 0, 1}, func(x *api.WallTruth) { *x = plainWorst(chapterShore(), chapterStorm()) }, []int{183, 113, 63, 33}},
		{"the mildest", noWorks(4), func(x *api.WallTruth) {
			*x = api.WallTruth{Wind: 200, Fetch: 500, Tide: 20, Loss: 200, Drags: []int{20, 30, 40, 20}}
		}, []int{0, 0, 0, 0}},
		{"more wind", noWorks(4), func(x *api.WallTruth) { x.Wind = 300 }, []int{99, 24, 0, 0}},
		{"a higher tide", noWorks(4), func(x *api.WallTruth) { x.Tide = 50 }, []int{80, 5, 0, 0}},
	} {
		truth := chapterTruth()
		x.change(&truth)
		if list := play(t, chapterShore(), chapterStorm(), x.plan, truth); !slices.Equal(list, x.want) {
			t.Errorf("%s: %v", x.name, list)
		}
	}
}

// P8.1: what happens in a cell, at its bounds. The level at the shore is 50.
func TestPlayCells(t *testing.T) {
	cell := func(ground, drag int) api.WallCell {
		return api.WallCell{Ground: ground, Drag: exactly(drag), Floor: -1}
	}
	works := []api.WallWork{{Rise: 10}, {Calm: 7}, {Rise: 10, Calm: 7}}
	for _, x := range []struct {
		name  string
		cells []api.WallCell
		plan  []int
		want  []int
	}{
		{"above the ground by 1", []api.WallCell{cell(49, 0)}, []int{-1}, []int{1}},
		{"at the ground", []api.WallCell{cell(50, 0)}, []int{-1}, []int{0}},
		{"below the ground", []api.WallCell{cell(51, 0)}, []int{-1}, []int{0}},
		{"drag before the ground", []api.WallCell{cell(40, 9)}, []int{-1}, []int{1}},
		{"drag down to the ground", []api.WallCell{cell(40, 10)}, []int{-1}, []int{0}},
		{"above the wall by 1", []api.WallCell{cell(39, 0)}, []int{0}, []int{11}},
		{"at the wall", []api.WallCell{cell(40, 0)}, []int{0}, []int{0}},
		{"calm before the ground", []api.WallCell{cell(42, 0)}, []int{1}, []int{1}},
		{"calm down to the ground", []api.WallCell{cell(43, 0)}, []int{1}, []int{0}},
		{"drag and calm", []api.WallCell{cell(30, 5)}, []int{1}, []int{8}},
		{"above a wall that calms by 1", []api.WallCell{cell(32, 0)}, []int{2}, []int{11}},
		{"at a wall that calms", []api.WallCell{cell(33, 0)}, []int{2}, []int{0}},
		{"ground below the sea", []api.WallCell{cell(-5000, 0)}, []int{-1}, []int{5050}},
		{"a level below 0", []api.WallCell{cell(-5000, 4000)}, []int{-1}, []int{1050}},
		{"a drag below all ground", []api.WallCell{cell(-4950, 5000), cell(-5000, 0)}, []int{-1, -1}, []int{0, 0}},
		{"the lowest level that goes on", []api.WallCell{cell(-5000, 5000), cell(-5000, 49), cell(-5000, 0)}, []int{-1, -1, -1}, []int{50, 1, 1}},
		{"the level goes on", []api.WallCell{cell(0, 10), cell(0, 10), cell(0, 10)}, []int{-1, -1, -1}, []int{40, 30, 20}},
		{"the ground does not make it lower", []api.WallCell{cell(49, 0), cell(0, 0)}, []int{-1, -1}, []int{1, 50}},
		{"a wall does not make it lower", []api.WallCell{cell(39, 0), cell(0, 0)}, []int{0, -1}, []int{11, 50}},
		{"planting does", []api.WallCell{cell(0, 0), cell(0, 0)}, []int{1, -1}, []int{43, 43}},
		{"water that stops does not go on", []api.WallCell{cell(50, 0), cell(0, 0), cell(-5000, 0)}, []int{-1, -1, -1}, []int{0, 0, 0}},
		{"at a wall, too", []api.WallCell{cell(0, 0), cell(40, 0), cell(0, 0)}, []int{-1, 0, -1}, []int{50, 0, 0}},
		{"works behind it", []api.WallCell{cell(50, 0), cell(0, 0), cell(0, 0)}, []int{-1, 1, 2}, []int{0, 0, 0}},
		{"at the last cell", []api.WallCell{cell(0, 0), cell(0, 0), cell(50, 0)}, []int{-1, -1, -1}, []int{50, 50, 0}},
	} {
		s := api.WallShore{Cells: x.cells, Works: works}
		c := api.WallStorm{Wind: exactly(60), Fetch: exactly(1000), Tide: exactly(-10)}
		truth := api.WallTruth{Wind: 60, Fetch: 1000, Tide: -10}
		for _, cell := range x.cells {
			truth.Drags = append(truth.Drags, cell.Drag.Low)
		}
		if list := play(t, s, c, x.plan, truth); !slices.Equal(list, x.want) {
			t.Errorf("%s: %v", x.name, list)
		}
		for k, d := range depths(t, s, c, x.plan) {
			if d != exactly(x.want[k]) {
				t.Errorf("%s: %v in %v", x.name, d, k)
			}
		}
	}
}

// P8.1: the greatest numbers.
func TestPlayMost(t *testing.T) {
	var s api.WallShore
	var c api.WallStorm
	most(&s, &c)
	if list := play(t, s, c, noWorks(4), plainWorst(s, c)); !slices.Equal(list, []int{0, 0, 0, 0}) {
		t.Error(list)
	}
	s.Loss = exactly(0)
	if list := play(t, s, c, noWorks(4), plainWorst(s, c)); !slices.Equal(list, []int{5000, 0, 0, 0}) {
		t.Error(list)
	}
	for k := range s.Cells {
		s.Cells[k] = api.WallCell{Ground: -5000, Drag: exactly(5000), Floor: -1}
	}
	if list := play(t, s, c, noWorks(4), plainWorst(s, c)); !slices.Equal(list, []int{15000, 10000, 5000, 0}) {
		t.Error(list)
	}
	if list := play(t, s, c, []int{0, -1, -1, -1}, plainWorst(s, c)); !slices.Equal(list, []int{10000, 5000, 0, 0}) {
		t.Error(list)
	}
}

// P8.1: any shore, against a second writing of the section.
func TestPlayAll(t *testing.T) {
	r := rand.New(rand.NewSource(113))
	stopped, ran, never := 0, 0, 0
	for range 50000 {
		s, c := anyShore(r), randomStorm(r, 9)
		plan, x := randomPlan(r, s), randomTruth(r, s, c)
		want := plainPlay(s, plan, x)
		list, e := wall.Play(s, c, plan, x)
		if e != api.OK || !slices.Equal(list, want) {
			t.Fatal(s, c, plan, x, list, want, e)
		}
		switch slices.Index(list, 0) {
		case 0:
			never++
		case -1:
			ran++
		default:
			stopped++
		}
	}
	if stopped < 5000 || ran < 5000 || never < 5000 {
		t.Error(stopped, ran, never)
	}
}
