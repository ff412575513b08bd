package ship_test

import (
	"math"
	"slices"
	"testing"

	"motu/api"
	"motu/ship"
)

type passChange struct {
	name   string
	change func(*api.ShipPass)
}

// goodPasses are changes that leave the chapter's pass as defined; many reach a bound.
func goodPasses() []passChange {
	return []passChange{
		{"as it is", func(p *api.ShipPass) {}},
		{"one tide", func(p *api.ShipPass) { p.Tides = []int{0} }},
		{"all tides", func(p *api.ShipPass) { p.Tides = make([]int, api.ShipPeriod) }},
		{"any tides", func(p *api.ShipPass) { p.Tides[0], p.Tides[5] = -api.ShipMetres, api.ShipMetres }},
		{"no depth, no draft", func(p *api.ShipPass) { p.Depth, p.Draft = 0, 0 }},
		{"greatest depth and draft", func(p *api.ShipPass) { p.Depth, p.Draft = api.ShipMetres, api.ShipMetres }},
		{"one day", func(p *api.ShipPass) { p.Swell = p.Swell[:1] }},
		{"all days", func(p *api.ShipPass) { p.Swell = make([]api.Span, api.ShipDays) }},
		{"any swell", func(p *api.ShipPass) { p.Swell[0], p.Swell[1] = span(0, api.ShipMetres), exactly(api.ShipMetres) }},
		{"light all day", func(p *api.ShipPass) { p.Light = span(0, 23) }},
		{"light in one hour", func(p *api.ShipPass) { p.Light = exactly(23) }},
		{"light at midnight only", func(p *api.ShipPass) { p.Light = exactly(0) }},
	}
}

// badPasses are changes that leave the chapter's pass not as defined, each in one place only.
func badPasses() []passChange {
	return []passChange{
		{"zero value", func(p *api.ShipPass) { *p = api.ShipPass{} }},
		{"nil tides", func(p *api.ShipPass) { p.Tides = nil }},
		{"no tides", func(p *api.ShipPass) { p.Tides = []int{} }},
		{"tides", func(p *api.ShipPass) { p.Tides = make([]int, api.ShipPeriod+1) }},
		{"tide below", func(p *api.ShipPass) { p.Tides[0] = -api.ShipMetres - 1 }},
		{"tide above", func(p *api.ShipPass) { p.Tides[5] = api.ShipMetres + 1 }},
		{"tiny tide", func(p *api.ShipPass) { p.Tides[3] = math.MinInt }},
		{"depth below", func(p *api.ShipPass) { p.Depth = -1 }},
		{"depth above", func(p *api.ShipPass) { p.Depth = api.ShipMetres + 1 }},
		{"huge depth", func(p *api.ShipPass) { p.Depth = math.MaxInt }},
		{"draft below", func(p *api.ShipPass) { p.Draft = -1 }},
		{"draft above", func(p *api.ShipPass) { p.Draft = api.ShipMetres + 1 }},
		{"nil swell", func(p *api.ShipPass) { p.Swell = nil }},
		{"no swell", func(p *api.ShipPass) { p.Swell = []api.Span{} }},
		{"days", func(p *api.ShipPass) { p.Swell = make([]api.Span, api.ShipDays+1) }},
		{"swell below", func(p *api.ShipPass) { p.Swell[0] = span(-1, 1) }},
		{"swell is no span", func(p *api.ShipPass) { p.Swell[1] = span(2, 1) }},
		{"swell above", func(p *api.ShipPass) { p.Swell[1] = span(1, api.ShipMetres+1) }},
		{"light below", func(p *api.ShipPass) { p.Light = span(-1, 17) }},
		{"light is no span", func(p *api.ShipPass) { p.Light = span(18, 17) }},
		{"light above", func(p *api.ShipPass) { p.Light = span(6, 24) }},
	}
}

type storeChange struct {
	name   string
	change func(*api.ShipStore)
}

// addLots adds lots that are no goods at all.
func addLots(s *api.ShipStore, lots int) {
	for len(s.Lots) < lots {
		s.Lots = append(s.Lots, api.ShipLot{Goods: make([]api.Span, len(s.Stock))})
	}
}

// setKinds gives a store some kinds of goods.
func setKinds(s *api.ShipStore, kinds int) {
	s.Stock, s.Use = make([]int, kinds), make([]api.Span, kinds)
	for k := range s.Lots {
		s.Lots[k].Goods = make([]api.Span, kinds)
	}
}

// goodStores are changes that leave the chapter's store as defined; many reach a bound.
func goodStores() []storeChange {
	return []storeChange{
		{"as it is", func(s *api.ShipStore) {}},
		{"one kind", func(s *api.ShipStore) { setKinds(s, 1) }},
		{"all kinds", func(s *api.ShipStore) { setKinds(s, api.ShipKinds) }},
		{"no stock", func(s *api.ShipStore) { s.Stock[0] = 0 }},
		{"greatest stock", func(s *api.ShipStore) { s.Stock[1] = api.ShipGoods }},
		{"any use", func(s *api.ShipStore) { s.Use[0], s.Use[1] = span(0, api.ShipUse), exactly(api.ShipUse) }},
		{"no use", func(s *api.ShipStore) { s.Use[0] = exactly(0) }},
		{"any gap", func(s *api.ShipStore) { s.Gap = span(1, api.ShipGap) }},
		{"a ship a day", func(s *api.ShipStore) { s.Gap = exactly(1) }},
		{"nil lots", func(s *api.ShipStore) { s.Lots = nil }},
		{"empty lots", func(s *api.ShipStore) { s.Lots = []api.ShipLot{} }},
		{"all lots", func(s *api.ShipStore) { addLots(s, api.ShipLots) }},
		{"any goods", func(s *api.ShipStore) { s.Lots[1].Goods = []api.Span{span(0, api.ShipGoods), exactly(api.ShipGoods)} }},
		{"no weight, no cost", func(s *api.ShipStore) { s.Lots[0].Weight, s.Lots[0].Cost = 0, 0 }},
		{"greatest weight and cost", func(s *api.ShipStore) { s.Lots[0].Weight, s.Lots[0].Cost = api.ShipWeight, api.ShipCost }},
		{"no hold", func(s *api.ShipStore) { s.Hold = 0 }},
		{"greatest hold", func(s *api.ShipStore) { s.Hold = api.ShipWeight }},
	}
}

// badStores are changes that leave the chapter's store not as defined, each in one place only.
func badStores() []storeChange {
	all := []storeChange{
		{"zero value", func(s *api.ShipStore) { *s = api.ShipStore{} }},
		{"no kinds", func(s *api.ShipStore) { setKinds(s, 0) }},
		{"kinds", func(s *api.ShipStore) { setKinds(s, api.ShipKinds+1) }},
		{"a stock less", func(s *api.ShipStore) { s.Stock = s.Stock[:1] }},
		{"a use less", func(s *api.ShipStore) { s.Use = s.Use[:1] }},
		{"a use more", func(s *api.ShipStore) { s.Use = append(s.Use, exactly(0)) }},
		{"stock below", func(s *api.ShipStore) { s.Stock[0] = -1 }},
		{"stock above", func(s *api.ShipStore) { s.Stock[1] = api.ShipGoods + 1 }},
		{"use below", func(s *api.ShipStore) { s.Use[0] = span(-1, 4) }},
		{"use is no span", func(s *api.ShipStore) { s.Use[1] = span(3, 2) }},
		{"use above", func(s *api.ShipStore) { s.Use[1] = span(1, api.ShipUse+1) }},
		{"gap below", func(s *api.ShipStore) { s.Gap = span(0, 30) }},
		{"gap is no span", func(s *api.ShipStore) { s.Gap = span(31, 30) }},
		{"gap above", func(s *api.ShipStore) { s.Gap = span(20, api.ShipGap+1) }},
		{"lots", func(s *api.ShipStore) { addLots(s, api.ShipLots+1) }},
		{"hold below", func(s *api.ShipStore) { s.Hold = -1 }},
		{"hold above", func(s *api.ShipStore) { s.Hold = api.ShipWeight + 1 }},
		{"huge", func(s *api.ShipStore) {
			s.Stock[0], s.Use[0], s.Gap = math.MaxInt, exactly(math.MaxInt), exactly(math.MaxInt)
		}},
		{"tiny", func(s *api.ShipStore) {
			s.Stock[0], s.Use[0], s.Gap = math.MinInt, exactly(math.MinInt), exactly(math.MinInt)
		}},
	}
	for k := range 3 {
		all = append(all, badLots(k)...)
	}
	return all
}

func badLots(k int) []storeChange {
	return []storeChange{
		{"nil goods", func(s *api.ShipStore) { s.Lots[k].Goods = nil }},
		{"goods of a kind less", func(s *api.ShipStore) { s.Lots[k].Goods = s.Lots[k].Goods[:1] }},
		{"goods of a kind more", func(s *api.ShipStore) { s.Lots[k].Goods = append(s.Lots[k].Goods, exactly(0)) }},
		{"goods below", func(s *api.ShipStore) { s.Lots[k].Goods[0].Low = -1 }},
		{"goods are no span", func(s *api.ShipStore) { s.Lots[k].Goods[1] = span(61, 60) }},
		{"goods above", func(s *api.ShipStore) { s.Lots[k].Goods[1].High = api.ShipGoods + 1 }},
		{"weight below", func(s *api.ShipStore) { s.Lots[k].Weight = -1 }},
		{"weight above", func(s *api.ShipStore) { s.Lots[k].Weight = api.ShipWeight + 1 }},
		{"huge weight", func(s *api.ShipStore) { s.Lots[k].Weight = math.MaxInt }},
		{"cost below", func(s *api.ShipStore) { s.Lots[k].Cost = -1 }},
		{"cost above", func(s *api.ShipStore) { s.Lots[k].Cost = api.ShipCost + 1 }},
	}
}

// wantPassError asks for an error, with zero values, of all that takes a pass.
func wantPassError(t *testing.T, name string, p api.ShipPass, c api.ShipCall, want api.Errno) {
	t.Helper()
	if is, e := ship.Goes(p, c, 1); e != want || is {
		t.Errorf("%s: Goes: %v %v", name, is, e)
	}
	if a, b, e := ship.Hours(p, c.Day); e != want || len(a) != 0 || len(b) != 0 {
		t.Errorf("%s: Hours: %v %v %v", name, a, b, e)
	}
	if to, e := ship.Next(p, c); e != want || to != (api.ShipCall{}) {
		t.Errorf("%s: Next: %v %v", name, to, e)
	}
}

// P6.1: what CheckPass returns; no function takes a pass that is not as defined.
func TestCheckPass(t *testing.T) {
	for _, x := range goodPasses() {
		p := chapterPass()
		x.change(&p)
		before := clonePass(p)
		_, _, e := ship.Hours(p, 0)
		_, e2 := ship.Calls(p, span(1, 2), 1)
		if ship.CheckPass(p) != api.OK || e != api.OK || e2 != api.OK && e2 != api.ErrNone {
			t.Errorf("%s: %v %v", x.name, e, e2)
		}
		if !samePass(p, before) {
			t.Errorf("%s: the pass was changed", x.name)
		}
	}
	for _, x := range badPasses() {
		p := chapterPass()
		x.change(&p)
		if e := ship.CheckPass(p); e != api.ErrArg {
			t.Errorf("%s: %v", x.name, e)
		}
		wantPassError(t, x.name, p, call(0, 8), api.ErrArg)
		if calls, e := ship.Calls(p, span(1, 2), 1); e != api.ErrArg || len(calls) != 0 {
			t.Errorf("%s: Calls: %v %v", x.name, calls, e)
		}
	}
}

// P6.1: days, hours and swells that are not of the pass.
func TestBadCalls(t *testing.T) {
	p := chapterPass()
	for _, day := range []int{-1, 2, math.MinInt, math.MaxInt} {
		wantPassError(t, "day", p, call(day, 8), api.ErrArg)
	}
	for _, hour := range []int{-1, 24, math.MinInt, math.MaxInt} {
		if is, e := ship.Goes(p, call(0, hour), 1); e != api.ErrArg || is {
			t.Error("Goes", hour, is, e)
		}
		if to, e := ship.Next(p, call(0, hour)); e != api.ErrArg || to != (api.ShipCall{}) {
			t.Error("Next", hour, to, e)
		}
	}
	for _, x := range []struct {
		day, swell int
		e          api.Errno
	}{
		{0, 0, api.OK}, {0, 1, api.OK}, {0, -1, api.ErrArg}, {0, 2, api.ErrArg}, {0, 3, api.ErrArg}, {1, 0, api.ErrArg}, {1, 1, api.OK}, {1, 3, api.OK}, {1, 4, api.ErrArg},
		{1, math.MinInt, api.ErrArg}, {1, math.MaxInt, api.ErrArg},
	} {
		if is, e := ship.Goes(p, call(x.day, 8), x.swell); e != x.e || is != (e == api.OK) {
			t.Error(x, is, e)
		}
	}
}

// P6.2: gaps and numbers of calls that are not as defined.
func TestBadGaps(t *testing.T) {
	p := chapterPass()
	for _, gap := range []api.Span{{}, span(0, 2), span(2, 1), span(1, api.ShipGap+1), span(-1, 2), exactly(0), exactly(api.ShipGap + 1), span(math.MinInt, math.MaxInt)} {
		if calls, e := ship.Calls(p, gap, 1); e != api.ErrArg || len(calls) != 0 {
			t.Error(gap, calls, e)
		}
	}
	for _, many := range []int{0, -1, api.ShipCalls + 1, math.MinInt, math.MaxInt} {
		if calls, e := ship.Calls(p, span(1, 2), many); e != api.ErrArg || len(calls) != 0 {
			t.Error(many, calls, e)
		}
	}
	for _, gap := range []api.Span{exactly(1), span(1, api.ShipGap), exactly(api.ShipGap)} {
		for many := 1; many <= api.ShipCalls; many++ {
			if calls, e := ship.Calls(p, gap, many); e != api.ErrNone && (e != api.OK || many > 1) {
				t.Error(gap, many, calls, e)
			}
		}
	}
}

// wantStoreError asks for an error, with zero values, of all that takes a store with a load.
func wantStoreError(t *testing.T, name string, s api.ShipStore, load []int, days, kind int, x api.ShipTruth) {
	t.Helper()
	if a, b, e := ship.Play(s, load, days, x); e != api.ErrArg || len(a) != 0 || len(b) != 0 {
		t.Errorf("%s: Play: %v %v %v", name, a, b, e)
	}
	if all, e := ship.Want(s, load, days); e != api.ErrArg || len(all) != 0 {
		t.Errorf("%s: Want: %v %v", name, all, e)
	}
	if n, e := ship.Ration(s, load, days, kind); e != api.ErrArg || n != 0 {
		t.Errorf("%s: Ration: %v %v", name, n, e)
	}
}

func wantCargoError(t *testing.T, name string, s api.ShipStore, days int, want api.Errno) {
	t.Helper()
	if load, cost, e := ship.Cargo(s, days); e != want || len(load) != 0 || cost != 0 {
		t.Errorf("%s: Cargo: %v %v %v", name, load, cost, e)
	}
}

// P6.3: what CheckStore returns; no function takes a store that is not as defined.
func TestCheckStore(t *testing.T) {
	for _, x := range goodStores() {
		s := chapterStore()
		x.change(&s)
		before := cloneStore(s)
		_, e := ship.Want(s, nil, api.ShipLast)
		_, e2 := ship.Ration(s, nil, api.ShipLast, 0)
		if ship.CheckStore(s) != api.OK || e != api.OK || e2 != api.OK {
			t.Errorf("%s: %v %v", x.name, e, e2)
		}
		play(t, s, nil, api.ShipLast, endTruth(s, api.ShipLast, false))
		if _, _, e := ship.Cargo(s, api.ShipLast); e != api.OK && e != api.ErrNone {
			t.Errorf("%s: Cargo: %v", x.name, e)
		}
		if !sameStore(s, before) {
			t.Errorf("%s: the store was changed", x.name)
		}
	}
	for _, x := range badStores() {
		s := chapterStore()
		x.change(&s)
		if e := ship.CheckStore(s); e != api.ErrArg {
			t.Errorf("%s: %v", x.name, e)
		}
		wantStoreError(t, x.name, s, nil, 60, 0, chapterTruth())
		wantCargoError(t, x.name, s, 60, api.ErrArg)
	}
}

// P6.3 to P6.5: loads that are not as defined; of the chapter's lots, the third one is too heavy with another.
func TestBadLoads(t *testing.T) {
	for _, load := range [][]int{
		{0, 2}, {1, 2}, {0, 1, 2}, {1, 0}, {0, 0}, {0, 1, 1}, {-1}, {3}, {0, 3}, {math.MinInt}, {math.MaxInt}, {0, 1, 2, 3, 4, 5, 6},
	} {
		wantStoreError(t, "load", chapterStore(), load, 60, 0, chapterTruth())
	}
	for _, load := range [][]int{nil, {}, {0}, {1}, {2}, {0, 1}} {
		want(t, chapterStore(), load, 60)
		play(t, chapterStore(), load, 60, chapterTruth())
	}
	s := chapterStore()
	s.Hold = 80
	want(t, s, []int{0, 1}, 60)
	s.Hold = 79
	wantStoreError(t, "too heavy by one", s, []int{0, 1}, 60, 0, chapterTruth())
}

// P6.3 to P6.6: numbers of days and kinds that are not as defined.
func TestBadDays(t *testing.T) {
	for _, days := range []int{-1, api.ShipLast + 1, math.MinInt, math.MaxInt} {
		wantStoreError(t, "days", chapterStore(), nil, days, 0, chapterTruth())
		wantCargoError(t, "days", chapterStore(), days, api.ErrArg)
	}
	for _, days := range []int{0, 1, api.ShipLast} {
		want(t, chapterStore(), nil, days)
		ration(t, chapterStore(), nil, days, 1)
	}
	for _, kind := range []int{-1, 2, api.ShipKinds, math.MinInt, math.MaxInt} {
		if n, e := ship.Ration(chapterStore(), nil, 60, kind); e != api.ErrArg || n != 0 {
			t.Error(kind, n, e)
		}
	}
}

// P6.3: truths that are as defined, and such that are not.
func TestTruths(t *testing.T) {
	for name, change := range map[string]func(*api.ShipTruth){
		"least use":           func(x *api.ShipTruth) { x.Uses = []int{3, 1} },
		"least gaps":          func(x *api.ShipTruth) { x.Gaps = []int{20, 20, 20} },
		"gaps for more days":  func(x *api.ShipTruth) { x.Gaps = []int{30, 20, 25, 30} },
		"gaps for many ships": func(x *api.ShipTruth) { x.Gaps = slices.Repeat([]int{30}, api.ShipLast) },
		"least goods":         func(x *api.ShipTruth) { x.Goods[0][0], x.Goods[1][1] = 90, 50 },
		"greatest goods":      func(x *api.ShipTruth) { x.Goods[0][0], x.Goods[1][1] = 100, 60 },
	} {
		x := chapterTruth()
		change(&x)
		before := cloneTruth(x)
		play(t, chapterStore(), []int{0, 1}, 60, x)
		if !sameTruth(x, before) {
			t.Error(name, "was changed")
		}
	}
	for name, change := range map[string]func(*api.ShipTruth){
		"zero value":           func(x *api.ShipTruth) { *x = api.ShipTruth{} },
		"a use less":           func(x *api.ShipTruth) { x.Uses = x.Uses[:1] },
		"a use more":           func(x *api.ShipTruth) { x.Uses = append(x.Uses, 1) },
		"use below":            func(x *api.ShipTruth) { x.Uses[0] = 2 },
		"use above":            func(x *api.ShipTruth) { x.Uses[1] = 3 },
		"no gaps":              func(x *api.ShipTruth) { x.Gaps = nil },
		"gap below":            func(x *api.ShipTruth) { x.Gaps = []int{30, 19, 30} },
		"gap above":            func(x *api.ShipTruth) { x.Gaps[0] = 31 },
		"gap above, in vain":   func(x *api.ShipTruth) { x.Gaps = append(x.Gaps, 31) },
		"gaps for a day less":  func(x *api.ShipTruth) { x.Gaps = []int{30, 29} },
		"too many gaps":        func(x *api.ShipTruth) { x.Gaps = slices.Repeat([]int{30}, api.ShipLast+1) },
		"huge gaps":            func(x *api.ShipTruth) { x.Gaps = []int{math.MaxInt, math.MaxInt} },
		"tiny gap":             func(x *api.ShipTruth) { x.Gaps = []int{math.MinInt, 30, 30} },
		"no goods":             func(x *api.ShipTruth) { x.Goods = nil },
		"goods of a lot less":  func(x *api.ShipTruth) { x.Goods = x.Goods[:2] },
		"goods of a lot more":  func(x *api.ShipTruth) { x.Goods = append(x.Goods, []int{0, 0}) },
		"goods of a kind less": func(x *api.ShipTruth) { x.Goods[1] = x.Goods[1][:1] },
		"goods of a kind more": func(x *api.ShipTruth) { x.Goods[0] = append(x.Goods[0], 0) },
		"goods below":          func(x *api.ShipTruth) { x.Goods[0][0] = 89 },
		"goods above":          func(x *api.ShipTruth) { x.Goods[1][1] = 61 },
		"goods not on board":   func(x *api.ShipTruth) { x.Goods[2][1] = 31 },
	} {
		x := chapterTruth()
		change(&x)
		if a, b, e := ship.Play(chapterStore(), []int{0, 1}, 60, x); e != api.ErrArg || len(a) != 0 || len(b) != 0 {
			t.Error(name, a, b, e)
		}
	}
	// for no days no ship needs to come
	x := chapterTruth()
	x.Gaps = nil
	if firsts, left := play(t, chapterStore(), nil, 0, x); !slices.Equal(firsts, []int{-1, -1}) || !slices.Equal(left, []int{130, 70}) {
		t.Error(firsts, left)
	}
}

// extremes are numbers with which arguments are replaced.
var extremes = []int{math.MinInt, math.MinInt32, -1, 0, 1, 3, 2000, math.MaxInt32, math.MaxInt}

// eachPair goes through all ways to set one or two of some numbers to extremes.
func eachPair(count int, visit func(a, b, u, v int)) {
	for a := range count {
		for b := range a + 1 {
			for _, u := range extremes {
				for _, v := range extremes {
					visit(a, b, u, v)
				}
			}
		}
	}
}

// P0.1: whatever the arguments are, the functions of passes return.
func TestAnyPass(t *testing.T) {
	numbers := func(p *api.ShipPass, c *api.ShipCall, gap *api.Span, many *int) []*int {
		return []*int{&p.Tides[1], &p.Depth, &p.Draft, &p.Swell[1].Low, &p.Swell[1].High, &p.Light.Low, &p.Light.High, &c.Day, &c.Hour, &gap.Low, &gap.High, many}
	}
	p, c, gap, many := chapterPass(), call(1, 10), span(1, 1), 1
	eachPair(len(numbers(&p, &c, &gap, &many)), func(a, b, u, v int) {
		p, c, gap, many = chapterPass(), call(1, 10), span(1, 1), 1
		all := numbers(&p, &c, &gap, &many)
		*all[a], *all[b] = u, v
		e := ship.CheckPass(p)
		_, e1 := ship.Goes(p, c, v)
		_, _, e2 := ship.Hours(p, c.Day)
		_, e3 := ship.Next(p, c)
		_, e4 := ship.Calls(p, gap, many)
		if e == api.ErrArg && (e1 != e || e2 != e || e3 != e || e4 != e) || e1 == api.OK && e2 != api.OK || e3 != api.ErrArg && e2 != api.OK {
			t.Error(p, c, gap, many, v, e, e1, e2, e3, e4)
		}
	})
}

// P0.1: whatever the arguments are, the functions of stores return.
func TestAnyStore(t *testing.T) {
	numbers := func(s *api.ShipStore, x *api.ShipTruth, load []int, days, kind *int) []*int {
		lot := &s.Lots[1]
		return []*int{
			&s.Stock[0], &s.Use[0].Low, &s.Use[0].High, &s.Gap.Low, &s.Gap.High, &s.Hold, &lot.Goods[1].Low, &lot.Goods[1].High, &lot.Weight, &lot.Cost,
			&x.Uses[0], &x.Gaps[0], &x.Goods[1][1], &load[0], &load[1], days, kind,
		}
	}
	s, x, load, days, kind := chapterStore(), chapterTruth(), []int{0, 1}, 60, 1
	eachPair(len(numbers(&s, &x, load, &days, &kind)), func(a, b, u, v int) {
		s, x, load, days, kind = chapterStore(), chapterTruth(), []int{0, 1}, 60, 1
		all := numbers(&s, &x, load, &days, &kind)
		*all[a], *all[b] = u, v
		e := ship.CheckStore(s)
		_, _, e1 := ship.Play(s, load, days, x)
		_, e2 := ship.Want(s, load, days)
		_, e3 := ship.Ration(s, load, days, kind)
		_, _, e4 := ship.Cargo(s, days)
		if e == api.ErrArg && (e1 != e || e2 != e || e3 != e || e4 != e) || e1 == api.OK && e2 != api.OK || e3 == api.OK && e2 != api.OK {
			t.Error(s, x, load, days, kind, e, e1, e2, e3, e4)
		}
	})
	for n := range 8 {
		s := api.ShipStore{Stock: make([]int, n), Use: make([]api.Span, 7-n), Gap: span(1, 2), Lots: make([]api.ShipLot, n)}
		x := api.ShipTruth{Uses: make([]int, n), Gaps: make([]int, 7-n), Goods: make([][]int, n)}
		wantStoreError(t, "lengths", s, nil, n, 0, x)
		wantCargoError(t, "lengths", s, n, api.ErrArg)
		if a, b, e := ship.Play(chapterStore(), nil, 60, x); e != api.ErrArg || len(a) != 0 || len(b) != 0 {
			t.Error(n, a, b, e)
		}
	}
}
