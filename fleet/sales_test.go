package fleet_test

import (
	"math/rand"
	"slices"
	"testing"

	"motu/api"
	"motu/fleet"
)

// wantOversold asks for the first place that is oversold, if there is any.
func wantOversold(t *testing.T, s api.FleetSea, bids []api.FleetBid, sale int, places []api.FleetPlace) {
	t.Helper()
	want, wantError := api.FleetPlace{}, api.ErrNone
	if len(places) > 0 {
		want, wantError = places[0], api.OK
	}
	if p, e := fleet.Oversold(s, bids, sale); p != want || e != wantError {
		t.Fatal(s, bids, sale, p, e, places)
	}
}

// P9.1: the chapter's example, and bids that just meet or do not.
func TestOversold(t *testing.T) {
	s := api.FleetSea{Cells: 1, Roads: []int{0}, Zones: []int{1, 0, 1}, Berths: []int{2, 1, 0}, Days: 8}
	for _, x := range []struct {
		bids []api.FleetBid
		want []api.FleetPlace
	}{
		{nil, nil},
		{[]api.FleetBid{bid(0, 1, 0, 8, 0)}, nil},
		{[]api.FleetBid{bid(0, 0, 0, 8, 0), bid(0, 0, 0, 8, 0)}, nil},
		{[]api.FleetBid{bid(0, 0, 0, 8, 0), bid(0, 0, 0, 8, 0), bid(0, 0, 7, 1, 0)}, []api.FleetPlace{at(0, 7)}},
		{[]api.FleetBid{bid(0, 1, 0, 3, 0), bid(1, 1, 3, 5, 0)}, nil},
		{[]api.FleetBid{bid(0, 1, 0, 4, 0), bid(1, 1, 3, 5, 0)}, []api.FleetPlace{at(1, 3)}},
		{[]api.FleetBid{bid(0, 1, 2, 6, 0), bid(0, 1, 0, 4, 0)}, []api.FleetPlace{at(1, 2)}},
		{[]api.FleetBid{bid(0, 1, 0, 2, 0), bid(0, 0, 1, 2, 0), bid(0, 0, 1, 2, 0)}, nil},
		{[]api.FleetBid{bid(0, 2, 5, 1, 0)}, []api.FleetPlace{at(2, 5)}},
		// a zone comes before a day
		{[]api.FleetBid{bid(0, 2, 0, 1, 0), bid(0, 1, 7, 1, 0), bid(0, 1, 7, 1, 0)}, []api.FleetPlace{at(1, 7)}},
	} {
		wantOversold(t, s, x.bids, 1<<len(x.bids)-1, x.want)
		wantOversold(t, s, x.bids, 0, nil)
	}
	wantOversold(t, chapterSea(), chapterBids(), 3, []api.FleetPlace{at(0, 1)})
	wantOversold(t, chapterSea(), chapterBids(), 13, nil)
	wantOversold(t, chapterSea(), chapterBids(), 15, []api.FleetPlace{at(0, 1)})
	wantOversold(t, chapterSea(), chapterBids(), 14, []api.FleetPlace{at(0, 2)})
}

// P9.1: against the definition.
func TestOversoldRandom(t *testing.T) {
	r := rand.New(rand.NewSource(129))
	seen := map[bool]int{}
	for range 20000 {
		s := anySea(r)
		bids := anyBids(r, s)
		sale := r.Intn(1 << len(bids))
		places := plainOversold(s, bids, sale)
		wantOversold(t, s, bids, sale, places)
		seen[len(places) > 0]++
	}
	if seen[true] < 2000 || seen[false] < 2000 {
		t.Error(seen)
	}
}

// P9.1: the chapter's examples, and prices that are just paid.
func TestCeiling(t *testing.T) {
	most := []int{1000000, 1000000, 1000000, 1000000}
	for _, x := range []struct {
		prices [][]int
		want   int
	}{
		{chapterPrices(), 95}, {noPrices(2, 4), 145},
		{[][]int{{1, 0, 0, 0}, {0, 0, 0, 0}}, 145}, {[][]int{{0, 0, 1, 0}, {0, 0, 0, 0}}, 144}, {[][]int{{0, 30, 0, 0}, {0, 0, 0, 0}}, 115}, {[][]int{{0, 31, 0, 0}, {0, 0, 0, 0}}, 115},
		{[][]int{{0, 0, 0, 0}, {10, 0, 0, 0}}, 155}, {[][]int{{0, 0, 0, 0}, {10, 10, 10, 10}}, 185}, {[][]int{{0, 0, 0, 0}, {0, 0, 0, 50}}, 205},
		{[][]int{{0, 0, 0, 26}, {0, 0, 0, 0}}, 120}, {[][]int{most, most}, 12000000},
	} {
		if n := ceiling(t, chapterSea(), chapterBids(), x.prices); n != x.want {
			t.Error(x, n)
		}
	}
	if n := ceiling(t, chapterSea(), nil, chapterPrices()); n != 55 {
		t.Error(n)
	}
	s, all := fullSea(), noPrices(3, 8)
	for zone := range all {
		all[zone] = slices.Repeat(most, 2)
	}
	if n := ceiling(t, s, slices.Repeat([]api.FleetBid{bid(9, 2, 0, 8, 1000000)}, 10), all); n != 96000000 {
		t.Error(n)
	}
	if n := ceiling(t, s, slices.Repeat([]api.FleetBid{bid(9, 2, 7, 1, 1000000)}, 10), noPrices(3, 8)); n != 10000000 {
		t.Error(n)
	}
}

func randomPrices(r *rand.Rand, s api.FleetSea, most int) [][]int {
	prices := noPrices(len(s.Zones), s.Days)
	for zone := range prices {
		for day := range prices[zone] {
			prices[zone][day] = r.Intn(2) * r.Intn(most+1)
		}
	}
	return prices
}

// P9.1 and P9.2: against the definition; no prices have a ceiling below what a sale brings.
func TestCeilingRandom(t *testing.T) {
	r := rand.New(rand.NewSource(130))
	same := 0
	for range 3000 {
		s := anySea(r)
		bids := anyBids(r, s)
		_, revenue := sell(t, s, bids)
		for range 5 {
			p := randomPrices(r, s, []int{1, 5, 1000000}[r.Intn(3)])
			n := ceiling(t, s, bids, p)
			if n != plainCeiling(s, bids, p) || n < revenue {
				t.Fatal(s, bids, p, n, revenue)
			}
			if n == revenue {
				same++
			}
		}
	}
	if same < 500 {
		t.Error(same)
	}
}

// wantSale asks for a sale, and for prices that prove that no other one brings more.
func wantSale(t *testing.T, s api.FleetSea, bids []api.FleetBid, sale, revenue int) {
	t.Helper()
	if k, n := sell(t, s, bids); k != sale || n != revenue {
		t.Fatal(s, bids, k, n, sale, revenue)
	}
	p := prices(t, s, bids)
	if len(p) != len(s.Zones) || plainCeiling(s, bids, p) != revenue || ceiling(t, s, bids, p) != revenue {
		t.Fatal(s, bids, p, revenue)
	}
	dearest := 0
	for _, b := range bids {
		dearest = max(dearest, b.Price)
	}
	for zone, days := range p {
		if len(days) != s.Days || slices.Min(days) < 0 || slices.Max(days) > min(dearest, api.FleetPrice) {
			t.Fatal(s, bids, zone, p)
		}
	}
}

// P9.2: the chapter's example, and sales that bring as much as others.
func TestSell(t *testing.T) {
	s := chapterSea()
	row := []api.FleetBid{bid(0, 0, 0, 2, 10), bid(1, 0, 1, 2, 19), bid(2, 0, 2, 2, 10)}
	for _, x := range []struct {
		bids          []api.FleetBid
		sale, revenue int
	}{
		{nil, 0, 0}, {chapterBids(), 13, 95}, {chapterBids()[:2], 2, 50}, {row, 5, 20}, {row[:2], 2, 19},
		{[]api.FleetBid{row[0], bid(1, 0, 1, 2, 20), row[2]}, 2, 20},
		{[]api.FleetBid{row[0], row[0]}, 1, 10},
		{[]api.FleetBid{row[0], bid(1, 0, 1, 1, 10), bid(1, 0, 0, 1, 0)}, 1, 10},
		// bids that bring nothing are not of the least number
		{[]api.FleetBid{bid(0, 0, 0, 1, 0), bid(0, 1, 0, 1, 0), bid(0, 1, 0, 1, 1)}, 4, 1},
		{[]api.FleetBid{bid(0, 1, 0, 4, 7), bid(0, 1, 0, 4, 7), bid(0, 1, 0, 4, 7)}, 3, 14},
		{[]api.FleetBid{bid(0, 1, 0, 4, 7), bid(0, 1, 0, 4, 8), bid(0, 1, 0, 4, 9)}, 6, 17},
		{slices.Repeat([]api.FleetBid{bid(0, 1, 0, 4, 1000000)}, 10), 3, 2000000},
		// one bid for all days, or one for each of them
		{[]api.FleetBid{bid(0, 0, 0, 4, 9), bid(0, 0, 0, 1, 2), bid(0, 0, 1, 1, 2), bid(0, 0, 2, 1, 2), bid(0, 0, 3, 1, 2)}, 1, 9},
		{[]api.FleetBid{bid(0, 0, 0, 4, 9), bid(0, 0, 0, 1, 2), bid(0, 0, 1, 1, 2), bid(0, 0, 2, 1, 2), bid(0, 0, 3, 1, 4)}, 30, 10},
	} {
		wantSale(t, s, x.bids, x.sale, x.revenue)
	}
	full := fullSea()
	all := slices.Repeat([]api.FleetBid{bid(0, 0, 0, 8, 1000000), bid(1, 1, 3, 5, 1000000), bid(2, 2, 7, 1, 1000000)}, 3)
	wantSale(t, full, append(all, bid(9, 0, 0, 1, 1000000)), 1023, 10000000)
	full.Berths = []int{0, 0, 0}
	wantSale(t, full, append(all, bid(9, 0, 0, 1, 1000000)), 0, 0)
	full.Berths = []int{1, 1, 1}
	wantSale(t, full, append(all, bid(9, 0, 0, 1, 1000000)), 7, 3000000)
}

// P9.2: against all sales, of few prices and of many.
func TestSellRandom(t *testing.T) {
	r := rand.New(rand.NewSource(131))
	refused, sold := 0, 0
	for range 2000 {
		s := anySea(r)
		bids := anyBids(r, s)
		sale, revenue := plainSell(s, bids)
		wantSale(t, s, bids, sale, revenue)
		if sale > 0 {
			sold++
		}
		if sale < 1<<len(bids)-1 {
			refused++
		}
	}
	if refused < 1000 || sold < 1000 {
		t.Error(refused, sold)
	}
}

// P9.2: many bids for one zone with one or two berths, so that their days meet in all ways.
func TestSellCrowded(t *testing.T) {
	r := rand.New(rand.NewSource(132))
	for range 1500 {
		s := api.FleetSea{Cells: 1, Roads: []int{1}, Zones: []int{1}, Berths: []int{1 + r.Intn(2)}, Days: 3 + r.Intn(6)}
		bids := randomBids(r, s, 6+r.Intn(5), 12)
		sale, revenue := plainSell(s, bids)
		wantSale(t, s, bids, sale, revenue)
	}
}

// P9.2: no sale that somebody proposes brings more, as the prices prove; the best sale is not oversold.
func TestProposals(t *testing.T) {
	r := rand.New(rand.NewSource(133))
	proposed := 0
	for range 1000 {
		s := anySea(r)
		bids := randomBids(r, s, api.FleetBids, 50)
		sale, revenue := sell(t, s, bids)
		wantOversold(t, s, bids, sale, nil)
		most := ceiling(t, s, bids, prices(t, s, bids))
		if plainRevenue(bids, sale) != revenue || most != revenue {
			t.Fatal(s, bids, sale, revenue, most)
		}
		for range 20 {
			other := r.Intn(1 << len(bids))
			_, e := fleet.Oversold(s, bids, other)
			if e == api.OK {
				continue
			}
			proposed++
			if n := plainRevenue(bids, other); n > most || n == most && other < sale {
				t.Fatal(s, bids, sale, revenue, other, n)
			}
		}
	}
	if proposed < 500 {
		t.Error(proposed)
	}
}
