package ship_test

import (
	"math/rand"
	"slices"
	"testing"

	"motu/api"
)

// P6.4: the chapter's examples, and stores near it.
func TestWantExamples(t *testing.T) {
	for _, x := range []struct {
		name   string
		change func(*api.ShipStore)
		load   []int
		days   int
		want   []api.ShipWant
	}{
		{"no lots", func(s *api.ShipStore) {}, nil, 60, []api.ShipWant{{May: 32, Must: 43}, {May: 35, Must: -1}}},
		{"the third lot", func(s *api.ShipStore) {}, []int{2}, 60, []api.ShipWant{{May: -1, Must: -1}, {May: 50, Must: -1}}},
		{"the first two lots", func(s *api.ShipStore) {}, []int{0, 1}, 60, []api.ShipWant{{May: 55, Must: -1}, {May: -1, Must: -1}}},
		{"no days", func(s *api.ShipStore) {}, nil, 0, []api.ShipWant{{May: -1, Must: -1}, {May: -1, Must: -1}}},
		{"the day before", func(s *api.ShipStore) {}, nil, 32, []api.ShipWant{{May: -1, Must: -1}, {May: -1, Must: -1}}},
		{"on the day", func(s *api.ShipStore) {}, nil, 33, []api.ShipWant{{May: 32, Must: -1}, {May: -1, Must: -1}}},
		{"surely, the day before", func(s *api.ShipStore) {}, nil, 70, []api.ShipWant{{May: 32, Must: 43}, {May: 35, Must: -1}}},
		{"surely, on the day", func(s *api.ShipStore) {}, nil, 71, []api.ShipWant{{May: 32, Must: 43}, {May: 35, Must: 70}}},
		{"nothing there", func(s *api.ShipStore) { s.Stock = []int{0, 0} }, nil, 60, []api.ShipWant{{May: 0, Must: 0}, {May: 0, Must: 0}}},
		{"perhaps nothing is used", func(s *api.ShipStore) { s.Stock, s.Use[0].Low = []int{0, 0}, 0 }, nil, 60, []api.ShipWant{{May: 0, Must: -1}, {May: 0, Must: 0}}},
		{"nothing is used", func(s *api.ShipStore) { s.Stock[0], s.Use[0] = 0, exactly(0) }, nil, 60, []api.ShipWant{{May: -1, Must: -1}, {May: 35, Must: -1}}},
		{"ships come late", func(s *api.ShipStore) { s.Gap = span(20, 33) }, []int{0}, 60, []api.ShipWant{{May: 32, Must: -1}, {May: 35, Must: -1}}},
		{"even the first ship is late", func(s *api.ShipStore) { s.Gap = span(44, 50) }, []int{0}, 60, []api.ShipWant{{May: 32, Must: 43}, {May: 35, Must: -1}}},
		{"the first ship may just be in time", func(s *api.ShipStore) { s.Gap = span(43, 50) }, []int{0}, 60, []api.ShipWant{{May: 32, Must: -1}, {May: 35, Must: -1}}},
	} {
		s := chapterStore()
		x.change(&s)
		if all := want(t, s, x.load, x.days); !slices.Equal(all, x.want) {
			t.Errorf("%s: %v", x.name, all)
		}
	}
}

// eachOf goes through all lists with a number of each span.
func eachOf(spans []api.Span, visit func([]int)) {
	list := make([]int, len(spans))
	var next func(k int)
	next = func(k int) {
		if k == len(spans) {
			visit(slices.Clone(list))
			return
		}
		for n := spans[k].Low; n <= spans[k].High; n++ {
			list[k] = n
			next(k + 1)
		}
	}
	next(0)
}

// eachGaps goes through all gaps of ships of which just the last one comes after some days.
func eachGaps(gap api.Span, days int, before []int, visit func([]int)) {
	if days <= 0 {
		visit(slices.Clone(before))
		return
	}
	for n := gap.Low; n <= gap.High; n++ {
		eachGaps(gap, days-n, append(slices.Clone(before), n), visit)
	}
}

// plainTruths goes through all truths of a store, but for ships that come after the last day.
func plainTruths(s api.ShipStore, days int, visit func(api.ShipTruth)) {
	var spans []api.Span
	for _, lot := range s.Lots {
		spans = append(spans, lot.Goods...)
	}
	kinds := len(s.Stock)
	eachOf(s.Use, func(uses []int) {
		eachOf(spans, func(all []int) {
			var goods [][]int
			for k := range s.Lots {
				goods = append(goods, all[k*kinds:(k+1)*kinds])
			}
			eachGaps(s.Gap, days, nil, func(gaps []int) { visit(api.ShipTruth{Uses: uses, Gaps: gaps, Goods: goods}) })
		})
	})
}

// plainWant returns the same of all truths.
func plainWant(s api.ShipStore, load []int, days int) []api.ShipWant {
	all := slices.Repeat([]api.ShipWant{{May: -1, Must: -2}}, len(s.Stock))
	plainTruths(s, days, func(x api.ShipTruth) {
		firsts, _ := plainPlay(s, load, days, x)
		for kind, day := range firsts {
			w := &all[kind]
			if isEarlier(day, w.May) {
				w.May = day
			}
			if w.Must == -2 || isEarlier(w.Must, day) {
				w.Must = day
			}
		}
	})
	return all
}

// smallStore returns a store with few truths for some days.
func smallStore(r *rand.Rand) api.ShipStore {
	s := randomStore(r, 1+r.Intn(2), r.Intn(3), 2)
	s.Gap = randomSpan(r, 1, 5, 3)
	for kind := range s.Stock {
		s.Stock[kind] = r.Intn(30)
	}
	return s
}

// P6.4: both days, of all truths of small stores; nothing is changed or shared.
func TestWantAllTruths(t *testing.T) {
	r := rand.New(rand.NewSource(86))
	var seen [3]int
	for range 1500 {
		s := smallStore(r)
		load, days := randomLoad(r, s), r.Intn(12)
		old := cloneStore(s)
		all, expected := want(t, s, load, days), plainWant(s, load, days)
		if !slices.Equal(all, expected) || !sameStore(s, old) {
			t.Fatal(s, load, days, all, expected)
		}
		for kind, w := range all {
			switch {
			case w.May < 0:
				seen[0]++
			case w.Must < 0:
				seen[1]++
			default:
				seen[2]++
			}
			all[kind] = api.ShipWant{}
		}
		if again := want(t, s, load, days); !slices.Equal(again, expected) {
			t.Fatal("kept", again, expected)
		}
	}
	if slices.Min(seen[:]) < 100 {
		t.Error(seen)
	}
}

// P6.4: of greater stores, no truth is outside of what is told, and both days are so in some truth.
func TestWantRandomTruths(t *testing.T) {
	r := rand.New(rand.NewSource(87))
	between := 0
	for range 1500 {
		s := anyStore(r)
		load, days := randomLoad(r, s), r.Intn(120)
		all := want(t, s, load, days)
		may, _ := plainPlay(s, load, days, endTruth(s, days, false))
		must, _ := plainPlay(s, load, days, endTruth(s, days, true))
		for kind, w := range all {
			if w.May != may[kind] || w.Must != must[kind] {
				t.Fatal(s, load, days, all, may, must)
			}
		}
		for range 20 {
			x := randomTruth(r, s, days)
			firsts, _ := plainPlay(s, load, days, x)
			for kind, day := range firsts {
				if w := all[kind]; isEarlier(day, w.May) || isEarlier(w.Must, day) {
					t.Fatal(s, load, days, all, x, firsts)
				} else if day != w.May && day != w.Must {
					between++
				}
			}
		}
	}
	if between < 5000 {
		t.Error(between)
	}
}
