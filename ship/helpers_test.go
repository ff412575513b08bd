package ship_test

import (
	"cmp"
	"math/rand"
	"slices"
	"testing"

	"motu/api"
	"motu/ship"
)

func span(low, high int) api.Span { return api.Span{Low: low, High: high} }

func exactly(n int) api.Span { return span(n, n) }

func call(day, hour int) api.ShipCall { return api.ShipCall{Day: day, Hour: hour} }

// chapterPass returns the pass p of the chapter's examples.
func chapterPass() api.ShipPass {
	return api.ShipPass{Tides: []int{0, 2, 4, 3, 1, -1}, Depth: 20, Draft: 21, Swell: []api.Span{span(0, 1), span(1, 3)}, Light: span(6, 17)}
}

// chapterStore returns the store s of the chapter's examples.
func chapterStore() api.ShipStore {
	return api.ShipStore{
		Stock: []int{130, 70}, Use: []api.Span{span(3, 4), span(1, 2)}, Gap: span(20, 30), Hold: 100,
		Lots: []api.ShipLot{
			{Goods: []api.Span{span(90, 100), exactly(0)}, Weight: 50, Cost: 70},
			{Goods: []api.Span{exactly(0), span(50, 60)}, Weight: 30, Cost: 40},
			{Goods: []api.Span{exactly(130), exactly(30)}, Weight: 90, Cost: 100},
		},
	}
}

// chapterTruth returns the truth of the chapter's example.
func chapterTruth() api.ShipTruth {
	return api.ShipTruth{Uses: []int{4, 2}, Gaps: []int{30, 30}, Goods: [][]int{{95, 0}, {0, 55}, {130, 30}}}
}

func clonePass(p api.ShipPass) api.ShipPass {
	p.Tides, p.Swell = slices.Clone(p.Tides), slices.Clone(p.Swell)
	return p
}

func samePass(a, b api.ShipPass) bool {
	return slices.Equal(a.Tides, b.Tides) && a.Depth == b.Depth && a.Draft == b.Draft && slices.Equal(a.Swell, b.Swell) && a.Light == b.Light
}

func cloneStore(s api.ShipStore) api.ShipStore {
	s.Stock, s.Use, s.Lots = slices.Clone(s.Stock), slices.Clone(s.Use), slices.Clone(s.Lots)
	for k := range s.Lots {
		s.Lots[k].Goods = slices.Clone(s.Lots[k].Goods)
	}
	return s
}

func sameLot(a, b api.ShipLot) bool {
	return slices.Equal(a.Goods, b.Goods) && a.Weight == b.Weight && a.Cost == b.Cost
}

func sameStore(a, b api.ShipStore) bool {
	return slices.Equal(a.Stock, b.Stock) && slices.Equal(a.Use, b.Use) && a.Gap == b.Gap && slices.EqualFunc(a.Lots, b.Lots, sameLot) && a.Hold == b.Hold
}

func cloneTruth(t api.ShipTruth) api.ShipTruth {
	t.Uses, t.Gaps, t.Goods = slices.Clone(t.Uses), slices.Clone(t.Gaps), slices.Clone(t.Goods)
	for k := range t.Goods {
		t.Goods[k] = slices.Clone(t.Goods[k])
	}
	return t
}

func sameTruth(a, b api.ShipTruth) bool {
	return slices.Equal(a.Uses, b.Uses) && slices.Equal(a.Gaps, b.Gaps) && slices.EqualFunc(a.Goods, b.Goods, slices.Equal)
}

// plainTide is the tide of an hour, found by going through all hours before it.
func plainTide(p api.ShipPass, c api.ShipCall) int {
	k := 0
	for day := 0; day <= c.Day; day++ {
		for hour := range 24 {
			if day == c.Day && hour == c.Hour {
				break
			}
			k++
			if k == len(p.Tides) {
				k = 0
			}
		}
	}
	return p.Tides[k]
}

// plainGoes is what the section 'The pass' says of a call and a swell.
func plainGoes(p api.ShipPass, c api.ShipCall, swell int) bool {
	return p.Light.Low <= c.Hour && c.Hour <= p.Light.High && p.Depth+plainTide(p, c)-swell >= p.Draft
}

// plainSure returns all calls of a pass in which a ship can go through whatever the swell is, in their order.
func plainSure(p api.ShipPass) []api.ShipCall {
	var sure []api.ShipCall
	for day, swell := range p.Swell {
		for hour := range 24 {
			c := call(day, hour)
			all := true
			for n := swell.Low; n <= swell.High; n++ {
				all = all && plainGoes(p, c, n)
			}
			if all {
				sure = append(sure, c)
			}
		}
	}
	return sure
}

func compareCalls(a, b api.ShipCall) int {
	return cmp.Or(cmp.Compare(a.Day, b.Day), cmp.Compare(a.Hour, b.Hour))
}

// plainIsNext reports whether a call can come after one of some day for a gap; before the first one this is the day 0.
func plainIsNext(gap api.Span, day int, c api.ShipCall) bool {
	return gap.Low <= c.Day-day && c.Day-day <= gap.High
}

// plainCalls returns the first calls of all lists of them.
func plainCalls(p api.ShipPass, gap api.Span, many int) []api.ShipCall {
	sure := plainSure(p)
	var search func(before []api.ShipCall, day int) []api.ShipCall
	search = func(before []api.ShipCall, day int) []api.ShipCall {
		if len(before) == many {
			return before
		}
		for _, c := range sure {
			if !plainIsNext(gap, day, c) {
				continue
			}
			if calls := search(append(slices.Clone(before), c), c.Day); calls != nil {
				return calls
			}
		}
		return nil
	}
	return search(nil, 0)
}

// plainDay is what the section 'Stores' says of a day of one kind: what is left of it, and whether it is wanting.
func plainDay(there, use int) (int, bool) {
	if there < use {
		return 0, true
	}
	return there - use, false
}

// plainPlay is the section 'Stores', written down a second time.
func plainPlay(s api.ShipStore, load []int, days int, t api.ShipTruth) (firsts, left []int) {
	left = slices.Clone(s.Stock)
	firsts = slices.Repeat([]int{-1}, len(left))
	gaps, waited := t.Gaps, 0
	for day := range days {
		if waited == gaps[0] {
			for _, lot := range load {
				for kind := range left {
					left[kind] += t.Goods[lot][kind]
				}
			}
			gaps, waited = gaps[1:], 0
		}
		waited++
		for kind := range left {
			wants := false
			left[kind], wants = plainDay(left[kind], t.Uses[kind])
			if wants && firsts[kind] < 0 {
				firsts[kind] = day
			}
		}
	}
	return firsts, left
}

func within(r *rand.Rand, s api.Span) int { return s.Low + r.Intn(s.High-s.Low+1) }

// randomSpan returns a span from low to high, of at most so many numbers.
func randomSpan(r *rand.Rand, low, high, numbers int) api.Span {
	from := low + r.Intn(high-low+1)
	return span(from, min(high, from+r.Intn(numbers)))
}

// randomPass returns a pass of some days in which some hours are open, some perhaps, and some not.
func randomPass(r *rand.Rand, days int) api.ShipPass {
	p := api.ShipPass{Depth: 13 + r.Intn(8), Draft: 12, Light: randomSpan(r, 0, 23, 24)}
	for range 1 + r.Intn(api.ShipPeriod) {
		p.Tides = append(p.Tides, r.Intn(11)-5)
	}
	for range days {
		p.Swell = append(p.Swell, randomSpan(r, 0, 12, 6))
	}
	return p
}

// randomStore returns a store with spans of at most so many numbers, in which goods get scarce within some weeks.
func randomStore(r *rand.Rand, kinds, lots, numbers int) api.ShipStore {
	s := api.ShipStore{Gap: randomSpan(r, 1, 12, numbers), Hold: r.Intn(30)}
	for range kinds {
		s.Stock, s.Use = append(s.Stock, r.Intn(60)), append(s.Use, randomSpan(r, 0, 7, numbers))
	}
	for range lots {
		lot := api.ShipLot{Weight: r.Intn(12), Cost: r.Intn(5)}
		for range kinds {
			lot.Goods = append(lot.Goods, randomSpan(r, 0, 25, numbers))
		}
		s.Lots = append(s.Lots, lot)
	}
	return s
}

func anyStore(r *rand.Rand) api.ShipStore {
	return randomStore(r, 1+r.Intn(api.ShipKinds), r.Intn(api.ShipLots+1), 8)
}

// plainLoads returns all loads of a store.
func plainLoads(s api.ShipStore) [][]int {
	var loads [][]int
	for bits := range 1 << len(s.Lots) {
		var load []int
		weight := 0
		for k, lot := range s.Lots {
			if bits/(1<<k)%2 == 1 {
				load = append(load, k)
				weight += lot.Weight
			}
		}
		if weight <= s.Hold {
			loads = append(loads, load)
		}
	}
	return loads
}

func randomLoad(r *rand.Rand, s api.ShipStore) []int {
	loads := plainLoads(s)
	return loads[r.Intn(len(loads))]
}

func randomTruth(r *rand.Rand, s api.ShipStore, days int) api.ShipTruth {
	var t api.ShipTruth
	for _, use := range s.Use {
		t.Uses = append(t.Uses, within(r, use))
	}
	for sum := 0; sum < days; {
		gap := within(r, s.Gap)
		t.Gaps = append(t.Gaps, gap)
		sum += gap
	}
	for _, lot := range s.Lots {
		var goods []int
		for _, x := range lot.Goods {
			goods = append(goods, within(r, x))
		}
		t.Goods = append(t.Goods, goods)
	}
	return t
}

// endTruth returns the truth in which there is least, or most, of all kinds.
func endTruth(s api.ShipStore, days int, most bool) api.ShipTruth {
	end := func(x api.Span, high bool) int {
		if high {
			return x.High
		}
		return x.Low
	}
	var t api.ShipTruth
	for _, use := range s.Use {
		t.Uses = append(t.Uses, end(use, !most))
	}
	for sum := 0; sum < days; sum += end(s.Gap, !most) {
		t.Gaps = append(t.Gaps, end(s.Gap, !most))
	}
	for _, lot := range s.Lots {
		var goods []int
		for _, x := range lot.Goods {
			goods = append(goods, end(x, most))
		}
		t.Goods = append(t.Goods, goods)
	}
	return t
}

func play(t *testing.T, s api.ShipStore, load []int, days int, x api.ShipTruth) (firsts, left []int) {
	t.Helper()
	firsts, left, e := ship.Play(s, load, days, x)
	if e != api.OK {
		t.Fatal(s, load, days, x, e)
	}
	return firsts, left
}

func want(t *testing.T, s api.ShipStore, load []int, days int) []api.ShipWant {
	t.Helper()
	all, e := ship.Want(s, load, days)
	if e != api.OK || len(all) != len(s.Stock) {
		t.Fatal(s, load, days, all, e)
	}
	return all
}

func ration(t *testing.T, s api.ShipStore, load []int, days, kind int) int {
	t.Helper()
	n, e := ship.Ration(s, load, days, kind)
	if e != api.OK {
		t.Fatal(s, load, days, kind, n, e)
	}
	return n
}

// isEarlier reports whether one first day comes before another one; -1 is after all days.
func isEarlier(a, b int) bool { return a >= 0 && (b < 0 || a < b) }
