package ship_test

import (
	"cmp"
	"math/rand"
	"slices"
	"testing"

	"motu/api"
	"motu/ship"
)

// P6.5: the chapter's examples, and stores near it.
func TestRationExamples(t *testing.T) {
	for _, x := range []struct {
		name       string
		change     func(*api.ShipStore)
		load       []int
		days, kind int
		want       int
	}{
		{"the chapter's first", func(s *api.ShipStore) {}, []int{0, 1}, 60, 0, 750},
		{"the chapter's second", func(s *api.ShipStore) {}, []int{0, 1}, 60, 1, 1000},
		{"the chapter's third", func(s *api.ShipStore) {}, nil, 60, 0, 500},
		{"no days", func(s *api.ShipStore) { s.Stock[0] = 0 }, nil, 0, 0, 1000},
		{"one a day", func(s *api.ShipStore) {}, nil, 130, 0, 250},
		{"none a day", func(s *api.ShipStore) {}, nil, 131, 0, 0},
		{"nothing there", func(s *api.ShipStore) { s.Stock[0] = 0 }, nil, 1, 0, 0},
		{"nothing there, nothing used", func(s *api.ShipStore) { s.Stock[0], s.Use[0] = 0, exactly(0) }, nil, 300, 0, 1000},
		{"just enough", func(s *api.ShipStore) { s.Stock[0] = 240 }, nil, 60, 0, 1000},
		{"one less", func(s *api.ShipStore) { s.Stock[0] = 239 }, nil, 60, 0, 750},
		{"thousandths", func(s *api.ShipStore) { s.Stock[0], s.Use[0] = 999, span(0, 1000) }, nil, 1, 0, 999},
		{"thirds", func(s *api.ShipStore) { s.Stock[0], s.Use[0] = 1, span(0, 3) }, nil, 1, 0, 333},
		{"the other kind is wanting", func(s *api.ShipStore) { s.Stock[1] = 0 }, []int{0}, 55, 0, 1000},
		{"until the first ship", func(s *api.ShipStore) { s.Stock[0] = 59 }, []int{2}, 60, 0, 250},
	} {
		s := chapterStore()
		x.change(&s)
		if n := ration(t, s, x.load, x.days, x.kind); n != x.want {
			t.Errorf("%s: %v", x.name, n)
		}
	}
}

// rationed returns a truth with a ration of one kind.
func rationed(x api.ShipTruth, kind, ration int) api.ShipTruth {
	x = cloneTruth(x)
	use := x.Uses[kind] * ration / 1000
	for use*1000 < x.Uses[kind]*ration {
		use++
	}
	x.Uses[kind] = use
	return x
}

// plainRation returns the greatest of all rations with which a kind is not wanting in the scarcest truth.
func plainRation(s api.ShipStore, load []int, days, kind int) int {
	worst := endTruth(s, days, false)
	ration := 1000
	for {
		if firsts, _ := plainPlay(s, load, days, rationed(worst, kind, ration)); firsts[kind] < 0 {
			return ration
		}
		ration--
	}
}

// P6.5: all rations one by one; with the ration the kind is not wanting in any truth, and one thousandth more is too much in one.
func TestRationOfAll(t *testing.T) {
	r := rand.New(rand.NewSource(88))
	var seen [3]int
	for range 500 {
		s := anyStore(r)
		if r.Intn(3) == 0 { // so that few thousandths matter
			for kind := range s.Stock {
				s.Stock[kind], s.Use[kind] = r.Intn(10000), randomSpan(r, 0, api.ShipUse, 300)
			}
		}
		load, days, kind := randomLoad(r, s), r.Intn(80), r.Intn(len(s.Stock))
		old, oldLoad := cloneStore(s), slices.Clone(load)
		n := ration(t, s, load, days, kind)
		if expected := plainRation(s, load, days, kind); n != expected || !sameStore(s, old) || !slices.Equal(load, oldLoad) {
			t.Fatal(s, load, days, kind, n, expected)
		}
		seen[min(n, 1)+n/1000]++
		for range 20 {
			x := rationed(randomTruth(r, s, days), kind, n)
			if firsts, _ := plainPlay(s, load, days, x); firsts[kind] >= 0 {
				t.Fatal(s, load, days, kind, n, x, firsts)
			}
		}
	}
	if slices.Min(seen[:]) < 50 {
		t.Error(seen)
	}
}

// P6.5: all truths of small stores.
func TestRationAllTruths(t *testing.T) {
	r := rand.New(rand.NewSource(89))
	for range 500 {
		s := smallStore(r)
		load, days, kind := randomLoad(r, s), r.Intn(10), r.Intn(len(s.Stock))
		n := ration(t, s, load, days, kind)
		tooMuch := n == 1000
		plainTruths(s, days, func(x api.ShipTruth) {
			if firsts, _ := plainPlay(s, load, days, rationed(x, kind, n)); firsts[kind] >= 0 {
				t.Fatal(s, load, days, kind, n, x)
			}
			more, _ := plainPlay(s, load, days, rationed(x, kind, n+1))
			tooMuch = tooMuch || more[kind] >= 0
		})
		if !tooMuch {
			t.Fatal("more would do", s, load, days, kind, n)
		}
	}
}

// P6.6: the chapter's examples, and stores near it.
func TestCargoExamples(t *testing.T) {
	for _, x := range []struct {
		name   string
		change func(*api.ShipStore)
		days   int
		want   []int
		cost   int
		e      api.Errno
	}{
		{"the first two", func(s *api.ShipStore) {}, 55, []int{0, 1}, 110, api.OK},
		{"the third", func(s *api.ShipStore) {}, 50, []int{2}, 100, api.OK},
		{"no lots", func(s *api.ShipStore) {}, 30, nil, 0, api.OK},
		{"none suffice", func(s *api.ShipStore) {}, 60, nil, 0, api.ErrNone},
		{"no days", func(s *api.ShipStore) { s.Stock = []int{0, 0} }, 0, nil, 0, api.OK},
		{"nothing on the first day", func(s *api.ShipStore) { s.Stock[0] = 3 }, 1, nil, 0, api.ErrNone},
		{"the last day without lots", func(s *api.ShipStore) {}, 32, nil, 0, api.OK},
		{"one day more", func(s *api.ShipStore) {}, 33, []int{0}, 70, api.OK},
		{"as cheap, fewer lots", func(s *api.ShipStore) { s.Lots[2].Cost = 110 }, 50, []int{2}, 110, api.OK},
		{"fewer lots cost one more", func(s *api.ShipStore) { s.Lots[2].Cost = 111 }, 50, []int{0, 1}, 110, api.OK},
		{"as cheap, as many lots", func(s *api.ShipStore) { s.Lots[2].Cost = 70 }, 33, []int{0}, 70, api.OK},
		{"lots that cost nothing, in vain", func(s *api.ShipStore) { s.Lots[0].Cost, s.Lots[1].Cost = 0, 0 }, 30, nil, 0, api.OK},
		{"just not too heavy", func(s *api.ShipStore) { s.Hold = 120 }, 60, []int{1, 2}, 140, api.OK},
		{"too heavy by one", func(s *api.ShipStore) { s.Hold = 119 }, 60, nil, 0, api.ErrNone},
		{"nothing can be carried", func(s *api.ShipStore) { s.Hold = 0 }, 33, nil, 0, api.ErrNone},
		{"goods without weight", func(s *api.ShipStore) { s.Hold, s.Lots[0].Weight = 0, 0 }, 33, []int{0}, 70, api.OK},
		{"no lots to load", func(s *api.ShipStore) { s.Lots = nil }, 33, nil, 0, api.ErrNone},
	} {
		s := chapterStore()
		x.change(&s)
		if load, cost, e := ship.Cargo(s, x.days); e != x.e || cost != x.cost || !slices.Equal(load, x.want) {
			t.Errorf("%s: %v %v %v", x.name, load, cost, e)
		}
	}
}

func plainCost(s api.ShipStore, load []int) int {
	cost := 0
	for _, lot := range load {
		cost += s.Lots[lot].Cost
	}
	return cost
}

// plainSuffices reports whether no kind is wanting in the scarcest truth.
func plainSuffices(s api.ShipStore, load []int, days int) bool {
	firsts, _ := plainPlay(s, load, days, endTruth(s, days, false))
	return slices.Max(firsts) < 0
}

// plainCargo returns the best of all loads, and whether there is one.
func plainCargo(s api.ShipStore, days int) ([]int, bool) {
	loads := plainLoads(s)
	slices.SortFunc(loads, func(a, b []int) int {
		return cmp.Or(cmp.Compare(plainCost(s, a), plainCost(s, b)), cmp.Compare(len(a), len(b)), slices.Compare(a, b))
	})
	for _, load := range loads {
		if plainSuffices(s, load, days) {
			return load, true
		}
	}
	return nil, false
}

// P6.6: the best of all loads, with which no kind is wanting in any truth; nothing is changed or shared.
func TestCargoOfAll(t *testing.T) {
	r := rand.New(rand.NewSource(90))
	seen := map[int]int{}
	for range 3000 {
		s := randomStore(r, 1+r.Intn(3), r.Intn(api.ShipLots+1), 6)
		s.Gap.High = min(s.Gap.High, 6) // so that lots often help
		s.Gap.Low = min(s.Gap.Low, s.Gap.High)
		days := r.Intn(30)
		old := cloneStore(s)
		load, cost, e := ship.Cargo(s, days)
		expected, found := plainCargo(s, days)
		if found != (e == api.OK) || !found && e != api.ErrNone || !slices.Equal(load, expected) || cost != plainCost(s, expected) || !sameStore(s, old) {
			t.Fatal(s, days, load, cost, e, expected)
		}
		if !found {
			seen[-1]++
			continue
		}
		seen[min(2, len(load))]++
		for range 5 {
			x := randomTruth(r, s, days)
			if firsts, _ := plainPlay(s, load, days, x); slices.Max(firsts) >= 0 {
				t.Fatal(s, days, load, x, firsts)
			}
		}
		for k := range load {
			load[k] = -1
		}
		if again, _, _ := ship.Cargo(s, days); !slices.Equal(again, expected) {
			t.Fatal("kept", again, expected)
		}
	}
	for k := -1; k <= 2; k++ {
		if seen[k] < 100 {
			t.Error(seen)
		}
	}
}

// P6.6: with each load that costs less, Want tells that some kind can be wanting.
func TestCargoAndWant(t *testing.T) {
	r := rand.New(rand.NewSource(91))
	for range 500 {
		s := anyStore(r)
		days := r.Intn(40)
		_, cost, e := ship.Cargo(s, days)
		for _, load := range plainLoads(s) {
			wants := slices.ContainsFunc(want(t, s, load, days), func(w api.ShipWant) bool { return w.May >= 0 })
			if !wants && (e != api.OK || plainCost(s, load) < cost) {
				t.Fatal(s, days, load, cost, e)
			}
		}
	}
}
