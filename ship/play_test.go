package ship_test

import (
	"math/rand"
	"slices"
	"testing"

	"motu/api"
)

// P6.3: the chapter's example, and truths near it.
func TestPlayExamples(t *testing.T) {
	for _, x := range []struct {
		name         string
		load         []int
		days         int
		gaps         []int
		firsts, left []int
	}{
		{"the chapter's", []int{0, 1}, 60, []int{30, 30}, []int{56, -1}, []int{0, 5}},
		{"no day", nil, 0, []int{30, 30}, []int{-1, -1}, []int{130, 70}},
		{"one day", nil, 1, []int{30, 30}, []int{-1, -1}, []int{126, 68}},
		{"before it is wanting", []int{0, 1}, 56, []int{30, 30}, []int{-1, -1}, []int{1, 13}},
		{"as it is wanting", []int{0, 1}, 57, []int{30, 30}, []int{56, -1}, []int{0, 11}},
		{"the day before a ship", []int{0, 1}, 30, []int{30, 30}, []int{-1, -1}, []int{10, 10}},
		{"the day of a ship", []int{0, 1}, 31, []int{30, 30}, []int{-1, -1}, []int{101, 63}},
		{"no load", nil, 60, []int{30, 30}, []int{32, 35}, []int{0, 0}},
		{"goods of the load only", []int{1}, 60, []int{30, 30}, []int{32, -1}, []int{0, 5}},
		{"two ships", []int{0}, 60, []int{20, 25, 30}, []int{-1, 35}, []int{80, 0}},
		{"two ships, and one too late", []int{2}, 60, []int{30, 20, 20}, []int{-1, -1}, []int{150, 10}},
		{"a ship on the last day", []int{1}, 60, []int{30, 29, 20}, []int{32, -1}, []int{0, 60}},
		{"more gaps than are needed", []int{0, 1}, 60, []int{30, 30, 20, 20}, []int{56, -1}, []int{0, 5}},
	} {
		truth := chapterTruth()
		truth.Gaps = x.gaps
		if firsts, left := play(t, chapterStore(), x.load, x.days, truth); !slices.Equal(firsts, x.firsts) || !slices.Equal(left, x.left) {
			t.Errorf("%s: %v %v", x.name, firsts, left)
		}
	}
}

// P6.3: goods that were wanting are there again when a ship comes; what is less than the use is taken.
func TestPlayWantsAgain(t *testing.T) {
	s := api.ShipStore{Stock: []int{7}, Use: []api.Span{exactly(5)}, Gap: exactly(3), Hold: 1, Lots: []api.ShipLot{{Goods: []api.Span{exactly(12)}, Weight: 1}}}
	truth := api.ShipTruth{Uses: []int{5}, Gaps: []int{3, 3}, Goods: [][]int{{12}}}
	for days, want := range []int{7, 2, 0, 0, 7, 2, 0} {
		firsts, left := play(t, s, []int{0}, days, truth)
		first := -1
		if days >= 2 {
			first = 1
		}
		if firsts[0] != first || left[0] != want {
			t.Error(days, firsts, left)
		}
	}
	s.Use[0], truth.Uses[0] = exactly(0), 0
	if firsts, left := play(t, s, nil, 6, truth); firsts[0] != -1 || left[0] != 7 {
		t.Error(firsts, left)
	}
}

// P6.3: any store in any truth, against a second writing of the section; nothing is changed or shared.
func TestPlayAll(t *testing.T) {
	r := rand.New(rand.NewSource(85))
	wanting := 0
	for range 3000 {
		s := anyStore(r)
		load, days := randomLoad(r, s), r.Intn(80)
		truth := randomTruth(r, s, days)
		oldStore, oldTruth, oldLoad := cloneStore(s), cloneTruth(truth), slices.Clone(load)
		firsts, left := play(t, s, load, days, truth)
		wantFirsts, wantLeft := plainPlay(s, load, days, truth)
		if !slices.Equal(firsts, wantFirsts) || !slices.Equal(left, wantLeft) {
			t.Fatal(s, load, days, truth, firsts, left, wantFirsts, wantLeft)
		}
		for k := range firsts {
			if firsts[k] >= 0 {
				wanting++
			}
			firsts[k] = -7
		}
		if !slices.Equal(left, wantLeft) {
			t.Fatal("shared", left)
		}
		for k := range left {
			left[k] = -7
		}
		again, alsoLeft := play(t, s, load, days, truth)
		if !slices.Equal(again, wantFirsts) || !slices.Equal(alsoLeft, wantLeft) || !sameStore(s, oldStore) || !sameTruth(truth, oldTruth) || !slices.Equal(load, oldLoad) {
			t.Fatal("changed", s, load, days, truth)
		}
	}
	if wanting < 1000 {
		t.Error(wanting)
	}
}

// P6.3: the greatest numbers of everything.
func TestPlayMost(t *testing.T) {
	s := api.ShipStore{Gap: exactly(1), Hold: api.ShipWeight}
	truth := api.ShipTruth{Gaps: slices.Repeat([]int{1}, api.ShipLast)}
	for range api.ShipKinds {
		s.Stock, s.Use, truth.Uses = append(s.Stock, api.ShipGoods), append(s.Use, exactly(api.ShipUse)), append(truth.Uses, api.ShipUse)
	}
	var load []int
	for k := range api.ShipLots {
		s.Lots = append(s.Lots, api.ShipLot{Goods: slices.Repeat([]api.Span{exactly(api.ShipGoods)}, api.ShipKinds), Cost: api.ShipCost})
		truth.Goods = append(truth.Goods, slices.Repeat([]int{api.ShipGoods}, api.ShipKinds))
		load = append(load, k)
	}
	// no ship comes on the day 0, and the last one would come on the day 300
	most := api.ShipGoods + 299*6*api.ShipGoods - 300*api.ShipUse
	firsts, left := play(t, s, load, api.ShipLast, truth)
	if !slices.Equal(firsts, slices.Repeat([]int{-1}, api.ShipKinds)) || !slices.Equal(left, slices.Repeat([]int{most}, api.ShipKinds)) {
		t.Error(firsts, left)
	}
	firsts, left = play(t, s, nil, api.ShipLast, truth)
	if !slices.Equal(firsts, slices.Repeat([]int{100}, api.ShipKinds)) || !slices.Equal(left, make([]int, api.ShipKinds)) {
		t.Error(firsts, left)
	}
}
