package reef_test

import (
	"math"
	"math/rand"
	"slices"
	"testing"

	"motu/api"
	"motu/reef"
)

// P3.3: the chapter's examples, and plans near them.
func TestShort(t *testing.T) {
	lower := chapterReef()
	lower.Places[0].Goal = 543
	none := chapterReef()
	none.Places[0].Goal, none.Places[1].Goal = 0, 0
	all := chapterReef()
	all.Places[0].Goal, all.Places[1].Goal = api.ReefFish, api.ReefFish
	for _, x := range []struct {
		name      string
		r         api.Reef
		plan      []int
		place, by int
		e         api.Errno
	}{
		{"chapter's first", chapterReef(), []int{0, 0}, 0, 357, api.OK},
		{"chapter's second", chapterReef(), []int{1, 1}, 1, 10, api.OK},
		{"chapter's third", chapterReef(), []int{1, 3}, 0, 0, api.ErrNone},
		{"the other way round", chapterReef(), []int{3, 1}, 0, 0, api.ErrNone},
		{"the first season", chapterReef(), []int{1, 0}, 0, 87, api.OK},
		{"the last season", chapterReef(), []int{0, 1}, 0, 107, api.OK},
		{"just the goal", lower, []int{0, 0}, 1, 40, api.OK},
		{"just the goal, and the other one closed", lower, []int{0, 2}, 0, 0, api.ErrNone},
		{"no goals", none, []int{0, 0}, 0, 0, api.ErrNone},
		{"both are short", all, []int{3, 3}, 0, api.ReefFish - 1063, api.OK},
	} {
		if place, by, e := reef.Short(x.r, x.plan); e != x.e || place != x.place || by != x.by {
			t.Errorf("%s: %v %v %v", x.name, place, by, e)
		}
	}
}

// P3.3: the first place that some truth leaves short, and no truth leaves it shorter; truths are gone through one by one.
func TestShortAllTruths(t *testing.T) {
	r := rand.New(rand.NewSource(37))
	seen := map[int]int{}
	for range 300 {
		x, plan := fewTruths(r)
		lacks := make([]int, len(x.Places))
		plainTruths(x, plan, func(truth api.ReefTruth) {
			ends, _ := plainPlay(x, truth)
			for k, n := range ends[len(ends)-1] {
				lacks[k] = max(lacks[k], x.Places[k].Goal-n)
			}
		})
		want, lack, e := 0, 0, api.ErrNone
		if k := slices.IndexFunc(lacks, func(n int) bool { return n > 0 }); k >= 0 {
			want, lack, e = k, lacks[k], api.OK
		}
		place, by, got := reef.Short(x, plan)
		if place != want || by != lack || got != e {
			t.Fatal(x, plan, place, by, got, want, lack, e)
		}
		seen[int(got)*10+place]++
	}
	for _, kind := range []int{int(api.ErrNone) * 10, 0, 1, 2} {
		if seen[kind] == 0 {
			t.Error("none of a kind:", seen)
		}
	}
}

// P3.3: if no place can be short, none is in any truth, in large reefs, too; otherwise the worst truth, which Play takes, leaves it short by just so many.
func TestShortRandomTruths(t *testing.T) {
	r := rand.New(rand.NewSource(38))
	seen := map[api.Errno]int{}
	for range 3000 {
		x := anyReef(r, 40)
		plan := randomPlan(r, x)
		place, by, e := reef.Short(x, plan)
		seen[e]++
		if e == api.OK {
			ends, _ := play(t, x, plan, worstTruth(x, plan, -1, 0))
			if left := ends[x.Seasons-1][place]; by <= 0 || left+by != x.Places[place].Goal {
				t.Fatal(x, plan, place, by, left)
			}
			continue
		}
		for range 20 {
			ends, _ := play(t, x, plan, randomTruth(r, x, plan))
			for k, n := range ends[x.Seasons-1] {
				if n < x.Places[k].Goal {
					t.Fatal(x, plan, k, n, e)
				}
			}
		}
	}
	if seen[api.OK] < 100 || seen[api.ErrNone] < 100 || len(seen) != 2 {
		t.Error(seen)
	}
}

// P3.4: the chapter's example, reefs near it, and the first ones of several.
func TestBest(t *testing.T) {
	for name, x := range map[string]struct {
		change func(*api.Reef)
		want   []int
		cost   int
	}{
		"chapter's":                    {func(r *api.Reef) {}, []int{1, 3}, 26},
		"one place only":               {func(r *api.Reef) { r.Places[1].Goal = 440 }, []int{1, 1}, 20},
		"just not":                     {func(r *api.Reef) { r.Places[1].Goal = 441 }, []int{1, 3}, 26},
		"both places, once each":       {func(r *api.Reef) { r.Places[0].Goal = 813 }, []int{1, 2}, 16},
		"nothing closed":               {func(r *api.Reef) { r.Places[0].Goal, r.Places[1].Goal = 543, 410 }, []int{0, 0}, 0},
		"no goals":                     {func(r *api.Reef) { r.Places[0].Goal, r.Places[1].Goal = 0, 0 }, []int{0, 0}, 0},
		"the other one first":          {func(r *api.Reef) { r.Places[1].Goal = 638 }, []int{3, 1}, 26},
		"all that closing can do":      {func(r *api.Reef) { r.Places[0].Goal, r.Places[1].Goal = 1063, 818 }, []int{3, 3}, 32},
		"one fish more":                {func(r *api.Reef) { r.Places[0].Goal = 1064 }, nil, 0},
		"one fish more in the last":    {func(r *api.Reef) { r.Places[1].Goal = 819 }, nil, 0},
		"far too many":                 {func(r *api.Reef) { r.Places[1].Goal = api.ReefFish }, nil, 0},
		"one is free":                  {func(r *api.Reef) { r.Places[1].Worth = 0 }, []int{1, 3}, 20},
		"all are free":                 {func(r *api.Reef) { r.Places[0].Worth, r.Places[1].Worth = 0, 0 }, []int{1, 3}, 0},
		"the dearest":                  {func(r *api.Reef) { r.Places[0].Worth, r.Places[1].Worth = api.ReefWorth, api.ReefWorth }, []int{1, 3}, 3000000},
		"two that are cheaper than it": {func(r *api.Reef) { r.Places[0].Goal, r.Places[0].Worth, r.Places[1].Goal = 543, 100, 460 }, []int{0, 2}, 6},
	} {
		r := chapterReef()
		x.change(&r)
		want := api.OK
		if x.want == nil {
			want = api.ErrNone
		}
		if l, cost, e := reef.Best(r); e != want || cost != x.cost || !slices.Equal(l, x.want) {
			t.Errorf("%s: %v %v %v", name, l, cost, e)
		}
	}
}

// P3.4: of plans that cost the same, the first one in lexicographic order of the bits of seasons.
func TestBestFirst(t *testing.T) {
	still := api.ReefPlace{Count: 100, Into: -1, Open: exactly(10), Goal: 70, Worth: 5}
	never := api.ReefPlace{Count: 100, Into: -1, Open: exactly(10), Worth: 0}
	for _, x := range []struct {
		places  []api.ReefPlace
		seasons int
		want    []int
		cost    int
	}{
		{[]api.ReefPlace{still}, 3, []int{0, 0, 0}, 0},
		{[]api.ReefPlace{still}, 4, []int{0, 0, 0, 1}, 5},
		{[]api.ReefPlace{still, never}, 4, []int{0, 0, 0, 1}, 5},
		{[]api.ReefPlace{never, still}, 4, []int{0, 0, 0, 2}, 5},
		{[]api.ReefPlace{still, still}, 4, []int{0, 0, 0, 3}, 10},
		{[]api.ReefPlace{never, never, never, still}, 4, []int{0, 0, 0, 8}, 5},
		{[]api.ReefPlace{never}, 4, []int{0, 0, 0, 0}, 0},
	} {
		if l, cost, e := reef.Best(api.Reef{Places: x.places, Seasons: x.seasons}); e != api.OK || cost != x.cost || !slices.Equal(l, x.want) {
			t.Error(x.places, x.seasons, l, cost, e)
		}
	}
}

// plainBest returns the first of the cheapest plans with which no place is short in the worst truth; nil if there is none.
func plainBest(x api.Reef) []int {
	var best []int
	for _, plan := range plainPlans(len(x.Places), x.Seasons) {
		if best != nil && plainCost(x, best) <= plainCost(x, plan) {
			continue
		}
		if place, _ := plainShort(x, plan, -1, 0); place < 0 {
			best = plan
		}
	}
	return best
}

func wantBest(t *testing.T, x api.Reef) api.Errno {
	t.Helper()
	want := plainBest(x)
	cost := 0
	if want != nil {
		cost = plainCost(x, want)
	}
	l, c, e := reef.Best(x)
	if !slices.Equal(l, want) || c != cost || (e == api.OK) != (want != nil) || want == nil && e != api.ErrNone {
		t.Fatal(x, l, c, e, want, cost)
	}
	return e
}

// P3.4: best plans against all plans.
func TestBestRandom(t *testing.T) {
	r := rand.New(rand.NewSource(39))
	seen := map[api.Errno]int{}
	for range 1500 {
		places := 1 + r.Intn(api.ReefPlaces)
		x := randomReef(r, places, 1+r.Intn(min(api.ReefSeasons, 8/places)), 40)
		seen[wantBest(t, x)]++
	}
	for range 6 {
		x := randomReef(r, api.ReefPlaces, api.ReefSeasons, 40)
		for k := range x.Places {
			x.Places[k].Goal /= 4
		}
		wantBest(t, x)
	}
	if seen[api.OK] < 100 || seen[api.ErrNone] < 100 {
		t.Error(seen)
	}
}

// P3.4: the best plan lets the reef recover, whatever is true; and no plan that does costs less.
func TestBestProposed(t *testing.T) {
	r := rand.New(rand.NewSource(40))
	for range 300 {
		x := randomReef(r, 1+r.Intn(3), 1+r.Intn(3), 40)
		best, cost, e := reef.Best(x)
		if e == api.OK {
			if _, _, short := reef.Short(x, best); short != api.ErrNone || plainCost(x, best) != cost {
				t.Fatal(x, best, cost, short)
			}
		}
		for range 20 {
			plan := randomPlan(r, x)
			if _, _, short := reef.Short(x, plan); short == api.ErrNone && (e != api.OK || plainCost(x, plan) < cost) {
				t.Fatal(x, best, cost, e, plan)
			}
		}
	}
}

// P3.5: the chapter's examples, reefs near it, and places that are not there.
func TestQuota(t *testing.T) {
	for _, x := range []struct {
		name   string
		change func(*api.Reef)
		plan   []int
		place  int
		want   int
		e      api.Errno
	}{
		{"chapter's first", func(r *api.Reef) {}, []int{1, 1}, 1, 195, api.OK},
		{"chapter's second", func(r *api.Reef) {}, []int{0, 0}, 1, 0, api.ErrNone},
		{"chapter's third", func(r *api.Reef) {}, []int{1, 3}, 0, api.ReefFish, api.OK},
		{"no more than people take", func(r *api.Reef) {}, []int{1, 3}, 1, api.ReefFish, api.OK},
		{"one season", func(r *api.Reef) {}, []int{1, 2}, 0, 213, api.OK},
		{"the other place is short", func(r *api.Reef) {}, []int{1, 1}, 0, 0, api.ErrNone},
		{"closed, and short", func(r *api.Reef) { r.Places[0].Goal = 1064 }, []int{1, 1}, 0, 0, api.ErrNone},
		{"nothing may be taken", func(r *api.Reef) { r.Places[1].Goal = 860 }, []int{1, 1}, 1, 0, api.OK},
		{"not even nothing", func(r *api.Reef) { r.Places[1].Goal = 861 }, []int{1, 1}, 1, 0, api.ErrNone},
		{"fewer than if it is shut", func(r *api.Reef) { r.Places[1].Goal, r.Places[1].Shut = 625, span(90, 180) }, []int{1, 3}, 1, 50, api.OK},
		{"what is shut stays", func(r *api.Reef) { r.Places[0].Shut = span(140, 150) }, []int{1, 2}, 0, 105, api.OK},
		{"place below", func(r *api.Reef) {}, []int{1, 1}, -1, 0, api.ErrArg},
		{"place above", func(r *api.Reef) {}, []int{1, 1}, 2, 0, api.ErrArg},
		{"tiny place", func(r *api.Reef) {}, []int{1, 1}, math.MinInt, 0, api.ErrArg},
		{"huge place", func(r *api.Reef) {}, []int{1, 1}, math.MaxInt, 0, api.ErrArg},
	} {
		r := chapterReef()
		x.change(&r)
		if n, e := reef.Quota(r, x.plan, x.place); e != x.e || n != x.want {
			t.Errorf("%s: %v %v", x.name, n, e)
		}
	}
}

// P3.5: the greatest quota that people would not reach anyway.
func TestGreatestQuota(t *testing.T) {
	r := api.Reef{Places: []api.ReefPlace{{Count: api.ReefFish, Into: -1, Open: exactly(api.ReefFish), Goal: 1}}, Seasons: 1}
	if n, e := reef.Quota(r, []int{0}, 0); e != api.OK || n != api.ReefFish-1 {
		t.Error(n, e)
	}
	r.Places[0].Goal = 0
	if n, e := reef.Quota(r, []int{0}, 0); e != api.OK || n != api.ReefFish {
		t.Error(n, e)
	}
	r.Places[0].Goal = api.ReefFish
	if n, e := reef.Quota(r, []int{0}, 0); e != api.OK || n != 0 {
		t.Error(n, e)
	}
}

// P3.5: quotas against all numbers, one by one.
func TestQuotaRandom(t *testing.T) {
	r := rand.New(rand.NewSource(41))
	seen := map[string]int{}
	for range 3000 {
		x := anyReef(r, 40)
		plan := randomPlan(r, x)
		place := r.Intn(len(x.Places))
		want := -1
		for n := range x.Places[place].Open.High + 1 {
			if short, _ := plainShort(x, plan, place, n); short < 0 {
				want = n
			}
		}
		kind := "some"
		if want == x.Places[place].Open.High {
			want, kind = api.ReefFish, "any"
		}
		e := api.OK
		if want < 0 {
			want, kind, e = 0, "none", api.ErrNone
		}
		seen[kind]++
		if n, got := reef.Quota(x, plan, place); n != want || got != e {
			t.Fatal(x, plan, place, n, got, want, e)
		}
	}
	if seen["some"] < 100 || seen["any"] < 100 || seen["none"] < 100 {
		t.Error(seen)
	}
}

// P3.5: with takes up to the quota the reef recovers, with one more some place can be short.
func TestQuotaHolds(t *testing.T) {
	r := rand.New(rand.NewSource(42))
	seen := 0
	for range 3000 {
		x := anyReef(r, 40)
		plan := randomPlan(r, x)
		place := r.Intn(len(x.Places))
		x.Places[place].Shut = exactly(0)
		quota, e := reef.Quota(x, plan, place)
		if e != api.OK || quota == api.ReefFish {
			continue
		}
		seen++
		for limit := range quota + 2 {
			y := cloneReef(x)
			p := &y.Places[place]
			p.Open = span(min(p.Open.Low, limit), min(p.Open.High, limit))
			want := api.ErrNone
			if limit > quota {
				want = api.OK
			}
			if _, _, short := reef.Short(y, plan); short != want {
				t.Fatal(x, plan, place, quota, limit, short)
			}
		}
	}
	if seen < 100 {
		t.Error(seen)
	}
}
