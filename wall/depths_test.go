package wall_test

import (
	"math/rand"
	"slices"
	"testing"

	"motu/api"
)

// P8.2: the chapter's examples, and plans near them.
func TestDepthsExamples(t *testing.T) {
	for _, x := range []struct {
		plan []int
		want []api.Span
	}{
		{noWorks(4), []api.Span{span(0, 183), span(0, 113), span(0, 63), span(0, 58)}},
		{[]int{1, 1, 1, -1}, []api.Span{span(0, 158), span(0, 63), exactly(0), exactly(0)}},
		{[]int{-1, -1, -1, 0}, []api.Span{span(0, 183), span(0, 113), span(0, 63), exactly(0)}},
		{[]int{-1, -1, 0, -1}, []api.Span{span(0, 183), span(0, 113), span(0, 63), span(0, 58)}},
		{[]int{0, 0, 0, 1}, []api.Span{span(0, 183), span(0, 113), span(0, 63), span(0, 33)}},
	} {
		if list := depths(t, chapterShore(), chapterStorm(), x.plan); !slices.Equal(list, x.want) {
			t.Error(x.plan, list)
		}
	}
	s := chapterShore()
	for k := range s.Cells {
		s.Cells[k].Ground -= 150
	}
	want := []api.Span{span(114, 333), span(34, 263), span(0, 213), span(0, 208)}
	if list := depths(t, s, chapterStorm(), noWorks(4)); !slices.Equal(list, want) {
		t.Error(list)
	}
}

// P8.2: the chapter's example, and other worst truths.
func TestWorst(t *testing.T) {
	want := api.WallTruth{Wind: 300, Fetch: 1000, Tide: 50, Loss: 100, Drags: []int{10, 20, 20, 10}}
	if x := worst(t, chapterShore(), chapterStorm()); !sameTruth(x, want) {
		t.Error(x)
	}
	r := rand.New(rand.NewSource(114))
	for range 1000 {
		s, c := anyShore(r), randomStorm(r, 9)
		if x := worst(t, s, c); !sameTruth(x, plainWorst(s, c)) {
			t.Fatal(s, c, x)
		}
	}
}

// fewTruths returns a shore with a class of storms, whose truths can be gone through one by one.
func fewTruths(r *rand.Rand) (api.WallShore, api.WallStorm) {
	return randomShore(r, 1+r.Intn(5), r.Intn(api.WallWorks+1), 2), randomStorm(r, 2)
}

// P8.2: each end of a depth is one of some truth, no truth lies outside, and all greatest ones are those of the worst truth.
func TestDepthsAllTruths(t *testing.T) {
	r := rand.New(rand.NewSource(115))
	deep, may := 0, 0
	for range 5000 {
		s, c := fewTruths(r)
		plan := randomPlan(r, s)
		want := slices.Repeat([]api.Span{span(100000, -100000)}, len(s.Cells))
		plainTruths(s, c, func(x api.WallTruth) {
			for k, n := range plainPlay(s, plan, x) {
				want[k] = span(min(want[k].Low, n), max(want[k].High, n))
			}
		})
		list := depths(t, s, c, plan)
		if !slices.Equal(list, want) {
			t.Fatal(s, c, plan, list, want)
		}
		for k, n := range play(t, s, c, plan, worst(t, s, c)) {
			if n != list[k].High {
				t.Fatal(s, c, plan, k, n, list)
			}
			if list[k].Low > 0 {
				deep++
			} else if n > 0 {
				may++
			}
		}
	}
	if deep < 500 || may < 200 {
		t.Error(deep, may)
	}
}

// P8.2: in wider classes, too, all truths lie within the bounds, and both ends are those of two truths.
func TestDepthsRandomTruths(t *testing.T) {
	r := rand.New(rand.NewSource(116))
	for range 2000 {
		s, c := anyShore(r), randomStorm(r, 50)
		plan := randomPlan(r, s)
		list := depths(t, s, c, plan)
		for range 20 {
			x := randomTruth(r, s, c)
			for k, n := range play(t, s, c, plan, x) {
				if !holds(list[k], n) {
					t.Fatal(s, c, plan, x, k, n, list)
				}
			}
		}
		mildest := api.WallTruth{Wind: c.Wind.Low, Fetch: c.Fetch.Low, Tide: c.Tide.Low, Loss: s.Loss.High}
		for _, cell := range s.Cells {
			mildest.Drags = append(mildest.Drags, cell.Drag.High)
		}
		least, greatest := play(t, s, c, plan, mildest), play(t, s, c, plan, worst(t, s, c))
		for k, d := range list {
			if d != span(least[k], greatest[k]) {
				t.Fatal(s, c, plan, k, d, least, greatest)
			}
		}
	}
}
