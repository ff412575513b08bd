package wall_test

import (
	"math/rand"
	"slices"
	"testing"

	"motu/api"
	"motu/wall"
)

func span(low, high int) api.Span { return api.Span{Low: low, High: high} }

func exactly(n int) api.Span { return span(n, n) }

// within returns a random number of a span.
func within(r *rand.Rand, s api.Span) int { return s.Low + r.Intn(s.High-s.Low+1) }

// holds reports whether a number is one of a span.
func holds(s api.Span, n int) bool { return s.Low <= n && n <= s.High }

// chapterShore returns the shore s of the chapter's examples.
func chapterShore() api.WallShore {
	return api.WallShore{
		Cells: []api.WallCell{
			{Ground: 100, Drag: span(10, 20), Floor: -1}, {Ground: 150, Drag: span(20, 30), Floor: -1},
			{Ground: 180, Drag: span(20, 40), Floor: 10}, {Ground: 175, Drag: span(10, 20), Floor: 0},
		},
		Works: []api.WallWork{{Rise: 60, Cost: 50}, {Calm: 25, Cost: 20}},
		Reef:  2, Loss: span(100, 200),
	}
}

// chapterStorm returns the class of storms c of the chapter's examples.
func chapterStorm() api.WallStorm {
	return api.WallStorm{Wind: span(200, 300), Fetch: span(500, 1000), Tide: span(20, 50)}
}

func chapterTruth() api.WallTruth {
	return api.WallTruth{Wind: 250, Fetch: 800, Tide: 40, Loss: 150, Drags: []int{15, 25, 30, 15}}
}

// noWorks returns the plan without any works.
func noWorks(cells int) []int { return slices.Repeat([]int{-1}, cells) }

func cloneShore(s api.WallShore) api.WallShore {
	s.Cells, s.Works = slices.Clone(s.Cells), slices.Clone(s.Works)
	return s
}

func cloneTruth(x api.WallTruth) api.WallTruth {
	x.Drags = slices.Clone(x.Drags)
	return x
}

func sameShore(a, b api.WallShore) bool {
	return slices.Equal(a.Cells, b.Cells) && slices.Equal(a.Works, b.Works) && a.Reef == b.Reef && a.Loss == b.Loss
}

func sameTruth(a, b api.WallTruth) bool {
	return a.Wind == b.Wind && a.Fetch == b.Fetch && a.Tide == b.Tide && a.Loss == b.Loss && slices.Equal(a.Drags, b.Drags)
}

// plainLevel is the first half of the section 'Waves', written down a second time.
func plainLevel(s api.WallShore, x api.WallTruth) int {
	wave := (x.Wind*x.Fetch - x.Wind*x.Fetch%1000) / 1000
	for step := s.Reef; step > 0; step-- {
		lost := wave * x.Loss
		wave -= (lost - lost%1000) / 1000
	}
	return wave + x.Tide
}

// plainPlay is its second half: it goes on behind water that stops.
func plainPlay(s api.WallShore, plan []int, x api.WallTruth) []int {
	level := plainLevel(s, x)
	stops := false
	var depths []int
	for k, c := range s.Cells {
		crest := c.Ground
		level -= x.Drags[k]
		if plan[k] != -1 {
			level -= s.Works[plan[k]].Calm
			crest += s.Works[plan[k]].Rise
		}
		stops = stops || level <= crest
		if stops {
			depths = append(depths, 0)
		} else {
			depths = append(depths, level-c.Ground)
		}
	}
	return depths
}

// plainWorst returns the worst truth.
func plainWorst(s api.WallShore, c api.WallStorm) api.WallTruth {
	x := api.WallTruth{Wind: c.Wind.High, Fetch: c.Fetch.High, Tide: c.Tide.High, Loss: s.Loss.Low}
	for _, cell := range s.Cells {
		x.Drags = append(x.Drags, cell.Drag.Low)
	}
	return x
}

// plainTruths goes through all truths.
func plainTruths(s api.WallShore, c api.WallStorm, look func(api.WallTruth)) {
	spans := []api.Span{c.Wind, c.Fetch, c.Tide, s.Loss}
	for _, cell := range s.Cells {
		spans = append(spans, cell.Drag)
	}
	numbers := make([]int, len(spans))
	var goOn func(k int)
	goOn = func(k int) {
		if k == len(spans) {
			look(api.WallTruth{Wind: numbers[0], Fetch: numbers[1], Tide: numbers[2], Loss: numbers[3], Drags: slices.Clone(numbers[4:])})
			return
		}
		for n := spans[k].Low; n <= spans[k].High; n++ {
			numbers[k] = n
			goOn(k + 1)
		}
	}
	goOn(0)
}

// plainPlans returns all plans, in no order that matters.
func plainPlans(s api.WallShore) [][]int {
	all := [][]int{nil}
	for range s.Cells {
		var longer [][]int
		for kind := len(s.Works) - 1; kind >= -1; kind-- {
			for _, plan := range all {
				longer = append(longer, append(slices.Clone(plan), kind))
			}
		}
		all = longer
	}
	return all
}

func plainCost(s api.WallShore, plan []int) int {
	cost := 0
	for _, kind := range plan {
		if kind >= 0 {
			cost += s.Works[kind].Cost
		}
	}
	return cost
}

// plainDry returns the cells whose houses stay dry in the worst truth.
func plainDry(s api.WallShore, c api.WallStorm, plan []int) []int {
	var cells []int
	for k, depth := range plainPlay(s, plan, plainWorst(s, c)) {
		if s.Cells[k].Floor >= 0 && depth <= s.Cells[k].Floor {
			cells = append(cells, k)
		}
	}
	return cells
}

func plainHouses(s api.WallShore) int {
	houses := 0
	for _, c := range s.Cells {
		if c.Floor >= 0 {
			houses++
		}
	}
	return houses
}

// randomSpan returns a span of numbers from a least one on, of at most so many numbers.
func randomSpan(r *rand.Rand, least, most, numbers int) api.Span {
	low := least + r.Intn(most-least+1)
	return span(low, min(most, low+r.Intn(numbers)))
}

// randomShore returns a shore on which water often stops, and often runs on; its spans have at most so many numbers.
func randomShore(r *rand.Rand, cells, works, numbers int) api.WallShore {
	s := api.WallShore{Reef: r.Intn(4), Loss: randomSpan(r, 0, 400, numbers)}
	for range cells {
		c := api.WallCell{Ground: r.Intn(40) - 10, Drag: randomSpan(r, 0, 8, numbers), Floor: -1}
		if r.Intn(3) > 0 {
			c.Floor = r.Intn(15)
		}
		s.Cells = append(s.Cells, c)
	}
	for range works {
		s.Works = append(s.Works, api.WallWork{Rise: r.Intn(2) * r.Intn(30), Calm: r.Intn(2) * r.Intn(15), Cost: r.Intn(6)})
	}
	return s
}

func randomStorm(r *rand.Rand, numbers int) api.WallStorm {
	return api.WallStorm{Wind: randomSpan(r, 0, 100, numbers), Fetch: randomSpan(r, 100, 900, numbers), Tide: randomSpan(r, -10, 20, numbers)}
}

// anyShore returns a shore of any size.
func anyShore(r *rand.Rand) api.WallShore {
	return randomShore(r, 1+r.Intn(api.WallCells), r.Intn(api.WallWorks+1), 9)
}

func randomPlan(r *rand.Rand, s api.WallShore) []int {
	plan := make([]int, len(s.Cells))
	for k := range plan {
		plan[k] = r.Intn(len(s.Works)+1) - 1
	}
	return plan
}

func randomTruth(r *rand.Rand, s api.WallShore, c api.WallStorm) api.WallTruth {
	x := api.WallTruth{Wind: within(r, c.Wind), Fetch: within(r, c.Fetch), Tide: within(r, c.Tide), Loss: within(r, s.Loss)}
	for _, cell := range s.Cells {
		x.Drags = append(x.Drags, within(r, cell.Drag))
	}
	return x
}

func level(t *testing.T, s api.WallShore, c api.WallStorm) api.Span {
	t.Helper()
	l, e := wall.Level(s, c)
	if e != api.OK {
		t.Fatal(s, c, l, e)
	}
	return l
}

func play(t *testing.T, s api.WallShore, c api.WallStorm, plan []int, x api.WallTruth) []int {
	t.Helper()
	list, e := wall.Play(s, c, plan, x)
	if e != api.OK || len(list) != len(s.Cells) {
		t.Fatal(s, c, plan, x, list, e)
	}
	return list
}

func depths(t *testing.T, s api.WallShore, c api.WallStorm, plan []int) []api.Span {
	t.Helper()
	list, e := wall.Depths(s, c, plan)
	if e != api.OK || len(list) != len(s.Cells) {
		t.Fatal(s, c, plan, list, e)
	}
	return list
}

func worst(t *testing.T, s api.WallShore, c api.WallStorm) api.WallTruth {
	t.Helper()
	x, e := wall.Worst(s, c)
	if e != api.OK {
		t.Fatal(s, c, x, e)
	}
	return x
}

func dry(t *testing.T, s api.WallShore, c api.WallStorm, plan []int) []int {
	t.Helper()
	list, e := wall.Dry(s, c, plan)
	if e != api.OK {
		t.Fatal(s, c, plan, list, e)
	}
	return list
}
