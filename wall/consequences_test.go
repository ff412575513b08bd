package wall_test

import (
	"math/rand"
	"testing"

	"motu/api"
	"motu/wall"
)

// lowered counts what became lower in truth, and of its bounds.
type lowered struct{ played, known int }

// wantLower asks whether nothing is higher than before, and tells whether anything is lower.
func wantLower(t *testing.T, before, after []int) int {
	t.Helper()
	lower := 0
	for k, n := range after {
		if n > before[k] {
			t.Fatal(before, after)
		}
		if n < before[k] {
			lower = 1
		}
	}
	return lower
}

// known returns the bounds of the level at the shore, and of each depth.
func known(t *testing.T, s api.WallShore, c api.WallStorm, plan []int) []int {
	t.Helper()
	l := level(t, s, c)
	all := []int{l.Low, l.High}
	for _, d := range depths(t, s, c, plan) {
		all = append(all, d.Low, d.High)
	}
	return all
}

// wantCheaper asks whether the best plan is no dearer than before, and still there.
func wantCheaper(t *testing.T, s api.WallShore, c api.WallStorm, better api.WallShore, weaker api.WallStorm) {
	t.Helper()
	_, cost, e := wall.Best(s, c)
	if _, less, e2 := wall.Best(better, weaker); e == api.OK && (e2 != api.OK || less > cost) {
		t.Fatal(s, c, better, weaker, cost, less, e2)
	}
}

// compare asks whether a shore with other works, or another reef, is nowhere deeper.
func (n *lowered) compare(t *testing.T, s api.WallShore, c api.WallStorm, plan []int, x api.WallTruth, better api.WallShore) {
	t.Helper()
	n.played += wantLower(t, play(t, s, c, plan, x), play(t, better, c, plan, x))
	n.known += wantLower(t, known(t, s, c, plan), known(t, better, c, plan))
	wantCheaper(t, s, c, better, c)
}

func (n *lowered) wantMany(t *testing.T, many int) {
	t.Helper()
	if n.played < many || n.known < many {
		t.Error(*n)
	}
}

// P8.6: a work more never makes any cell deeper.
func TestOneWorkMore(t *testing.T) {
	r := rand.New(rand.NewSource(123))
	var n lowered
	for range 20000 {
		s, c := randomShore(r, 1+r.Intn(api.WallCells), 1+r.Intn(api.WallWorks), 9), randomStorm(r, 9)
		plan, x := randomPlan(r, s), randomTruth(r, s, c)
		k := r.Intn(len(plan))
		plan[k] = -1
		played, bounds := play(t, s, c, plan, x), known(t, s, c, plan)
		plan[k] = r.Intn(len(s.Works))
		n.played += wantLower(t, played, play(t, s, c, plan, x))
		n.known += wantLower(t, bounds, known(t, s, c, plan))
	}
	n.wantMany(t, 2000)
}

// P8.6: a higher work, or one that calms more, never makes any cell deeper, nor the best plan dearer.
func TestHigherWork(t *testing.T) {
	r := rand.New(rand.NewSource(124))
	var rises, calms lowered
	for range 10000 {
		s, c := randomShore(r, 1+r.Intn(api.WallCells), 1+r.Intn(api.WallWorks), 9), randomStorm(r, 9)
		plan, x := randomPlan(r, s), randomTruth(r, s, c)
		k := r.Intn(len(s.Works))
		higher := cloneShore(s)
		higher.Works[k].Rise += 1 + r.Intn(20)
		rises.compare(t, s, c, plan, x, higher)
		calmer := cloneShore(s)
		calmer.Works[k].Calm += 1 + r.Intn(10)
		calms.compare(t, s, c, plan, x, calmer)
	}
	rises.wantMany(t, 200)
	calms.wantMany(t, 1000)
}

// P8.6: a wider reef never makes any cell deeper, nor the level at the shore higher.
func TestWiderReef(t *testing.T) {
	r := rand.New(rand.NewSource(125))
	var n lowered
	for range 10000 {
		s, c := anyShore(r), randomStorm(r, 9)
		wider := cloneShore(s)
		wider.Reef += 1 + r.Intn(4)
		n.compare(t, s, c, randomPlan(r, s), randomTruth(r, s, c), wider)
	}
	n.wantMany(t, 2000)
}

// weaker returns a span whose ends are at most those of another one.
func weaker(r *rand.Rand, s api.Span, least int) api.Span {
	low := s.Low - r.Intn(2)*r.Intn(min(20, s.Low-least+1))
	return span(low, within(r, span(max(low, s.High-20), s.High)))
}

// P8.6: a weaker storm never makes any cell deeper: in truth, and between the bounds of a class.
func TestWeakerStorm(t *testing.T) {
	r := rand.New(rand.NewSource(126))
	var n lowered
	for range 10000 {
		s, c := anyShore(r), randomStorm(r, 9)
		plan, x := randomPlan(r, s), randomTruth(r, s, c)
		calm := cloneTruth(x)
		calm.Wind, calm.Fetch, calm.Tide = within(r, span(c.Wind.Low, x.Wind)), within(r, span(c.Fetch.Low, x.Fetch)), within(r, span(c.Tide.Low, x.Tide))
		n.played += wantLower(t, play(t, s, c, plan, x), play(t, s, c, plan, calm))
		w := api.WallStorm{Wind: weaker(r, c.Wind, 0), Fetch: weaker(r, c.Fetch, 0), Tide: weaker(r, c.Tide, -5000)}
		n.known += wantLower(t, known(t, s, c, plan), known(t, s, w, plan))
		wantCheaper(t, s, c, s, w)
	}
	n.wantMany(t, 2000)
}
