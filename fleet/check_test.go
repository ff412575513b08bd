package fleet_test

import (
	"math"
	"math/rand"
	"slices"
	"testing"

	"motu/api"
	"motu/fleet"
)

// asked is what all functions together are asked.
type asked struct {
	sea         api.FleetSea
	bids        []api.FleetBid
	sale, fleet int
	prices      [][]int
	reports     []api.FleetReport
	path        []int
	zone        int
}

// chapterAsked returns what no function refuses.
func chapterAsked() asked {
	return asked{sea: chapterSea(), bids: chapterBids(), sale: 3, prices: chapterPrices(), reports: chapterReports(), path: []int{0, 1, 2, 1}}
}

// errors is what each function returns; of Oversold and Cheat, ErrNone is OK.
type errors struct{ check, oversold, sell, prices, ceiling, agrees, cheat, known, guilty api.Errno }

// badSea is what they return for a sea that is not as defined.
var badSea = errors{
	check: api.ErrArg, oversold: api.ErrArg, sell: api.ErrArg, prices: api.ErrArg, ceiling: api.ErrArg,
	agrees: api.ErrArg, cheat: api.ErrArg, known: api.ErrArg, guilty: api.ErrArg,
}

// forBids is what they return with an error of bids.
func forBids(e api.Errno) errors {
	return errors{oversold: e, sell: e, prices: e, ceiling: e, guilty: e}
}

// forReports is what they return with an error of reports.
func forReports(e api.Errno) errors { return errors{agrees: e, cheat: e, known: e, guilty: e} }

// ask calls all functions, and wants zero values with each error.
func (a asked) ask(t *testing.T) errors {
	t.Helper()
	var x errors
	zero := func(name string, e api.Errno, is bool) {
		t.Helper()
		if e != api.OK && !is {
			t.Errorf("%s: %v with %v", name, a, e)
		}
	}
	x.check = fleet.Check(a.sea)
	place, e := fleet.Oversold(a.sea, a.bids, a.sale)
	x.oversold = e
	zero("Oversold", e, place == api.FleetPlace{})
	sale, revenue, e := fleet.Sell(a.sea, a.bids)
	x.sell = e
	zero("Sell", e, sale == 0 && revenue == 0)
	prices, e := fleet.Prices(a.sea, a.bids)
	x.prices = e
	zero("Prices", e, len(prices) == 0)
	n, e := fleet.Ceiling(a.sea, a.bids, a.prices)
	x.ceiling = e
	zero("Ceiling", e, n == 0)
	is, e := fleet.Agrees(a.sea, a.reports, a.path)
	x.agrees = e
	zero("Agrees", e, !is)
	list, e := fleet.Cheat(a.sea, a.reports)
	x.cheat = e
	zero("Cheat", e, len(list) == 0)
	words, e := fleet.Known(a.sea, a.reports, a.zone)
	x.known = e
	zero("Known", e, len(words) == 0)
	places, e := fleet.Guilty(a.sea, a.bids, a.sale, a.fleet, a.reports)
	x.guilty = e
	zero("Guilty", e, len(places) == 0)
	for _, e := range []*api.Errno{&x.oversold, &x.cheat} {
		if *e == api.ErrNone {
			*e = api.OK
		}
	}
	return x
}

type change struct {
	name   string
	change func(*api.FleetSea)
}

// goodSeas are changes that leave the chapter's sea as defined, and its bids, path and so on, too; many reach a bound.
func goodSeas() []change {
	return []change{
		{"as it is", func(s *api.FleetSea) {}},
		{"all there may be", func(s *api.FleetSea) {
			zones := s.Zones
			*s = fullSea()
			s.Zones, s.Berths, s.Days = zones, s.Berths[:2], 4
		}},
		{"roads to anywhere", func(s *api.FleetSea) { s.Roads = []int{15, 15, 15, 15} }},
		{"roads to where they begin, too", func(s *api.FleetSea) { s.Roads = []int{3, 7, 14, 12} }},
		{"a road to nowhere", func(s *api.FleetSea) { s.Roads[3] = 0 }},
		{"all roads one way", func(s *api.FleetSea) { s.Roads = []int{2, 4, 10, 0} }},
		{"empty zones", func(s *api.FleetSea) { s.Zones = []int{0, 0} }},
		{"zones that are the sea", func(s *api.FleetSea) { s.Zones = []int{15, 15} }},
		{"zones with cells in common", func(s *api.FleetSea) { s.Zones = []int{7, 14} }},
		{"no berths", func(s *api.FleetSea) { s.Berths = []int{0, 0} }},
		{"all berths", func(s *api.FleetSea) { s.Berths = []int{4, 4} }},
	}
}

// badSeas are changes that leave the chapter's sea not as defined, each in one place only.
func badSeas() []change {
	all := []change{
		{"zero value", func(s *api.FleetSea) { *s = api.FleetSea{} }},
		{"no cells", func(s *api.FleetSea) { s.Cells, s.Roads, s.Zones = 0, nil, []int{0, 0} }},
		{"a cell less", func(s *api.FleetSea) { s.Cells = 3 }},
		{"a cell more", func(s *api.FleetSea) { s.Cells = 5 }},
		{"too many cells", func(s *api.FleetSea) { s.Cells, s.Roads = 9, append(s.Roads, 0, 0, 0, 0, 0) }},
		{"no roads", func(s *api.FleetSea) { s.Roads = nil }},
		{"a road less", func(s *api.FleetSea) { s.Roads = s.Roads[:3] }},
		{"a road more", func(s *api.FleetSea) { s.Roads = append(s.Roads, 0) }},
		{"nil zones", func(s *api.FleetSea) { s.Zones = nil }},
		{"no zones", func(s *api.FleetSea) { s.Zones, s.Berths = []int{}, []int{} }},
		{"a zone less", func(s *api.FleetSea) { s.Zones = s.Zones[:1] }},
		{"a zone more", func(s *api.FleetSea) { s.Zones = append(s.Zones, 1) }},
		{"too many zones", func(s *api.FleetSea) { s.Zones, s.Berths = []int{1, 2, 4, 8}, []int{1, 1, 1, 1} }},
		{"no berths", func(s *api.FleetSea) { s.Berths = nil }},
		{"berths of a zone less", func(s *api.FleetSea) { s.Berths = s.Berths[:1] }},
		{"berths of a zone more", func(s *api.FleetSea) { s.Berths = append(s.Berths, 1) }},
		{"no days", func(s *api.FleetSea) { s.Days = 0 }},
		{"too many days", func(s *api.FleetSea) { s.Days = 9 }},
	}
	for _, n := range []int{-1, math.MinInt, math.MaxInt} {
		all = append(all, change{"cells", func(s *api.FleetSea) { s.Cells = n }}, change{"days", func(s *api.FleetSea) { s.Days = n }})
	}
	for _, set := range []int{-1, 16, 17, math.MinInt, math.MaxInt} {
		for k := range 4 {
			all = append(all, change{"a road", func(s *api.FleetSea) { s.Roads[k] = set }})
		}
		for k := range 2 {
			all = append(all, change{"a zone", func(s *api.FleetSea) { s.Zones[k] = set }})
		}
	}
	for _, berths := range []int{-1, 5, math.MinInt, math.MaxInt} {
		for k := range 2 {
			all = append(all, change{"berths", func(s *api.FleetSea) { s.Berths[k] = berths }})
		}
	}
	return all
}

// P9.1 to P9.4: seas that are as defined, and seas that no function takes.
func TestSeas(t *testing.T) {
	for _, x := range goodSeas() {
		a := chapterAsked()
		x.change(&a.sea)
		a.path, a.reports = []int{0, 0, 0, 0}, nil
		if got := a.ask(t); got != (errors{}) {
			t.Errorf("%s: %v", x.name, got)
		}
	}
	for _, x := range badSeas() {
		a := chapterAsked()
		x.change(&a.sea)
		if got := a.ask(t); got != badSea {
			t.Errorf("%s: %v", x.name, got)
		}
		a = asked{sea: a.sea}
		if got := a.ask(t); got != badSea {
			t.Errorf("%s, all the rest empty: %v", x.name, got)
		}
	}
}

// P9.1: seas of all sizes.
func TestSizes(t *testing.T) {
	for cells := range 12 {
		for zones := range 6 {
			for days := range 11 {
				s := api.FleetSea{Cells: cells, Roads: make([]int, cells), Zones: make([]int, zones), Berths: make([]int, zones), Days: days}
				want := errors{}
				if cells < 1 || cells > 8 || zones < 1 || zones > 3 || days < 1 || days > 8 {
					want = badSea
				}
				a := asked{sea: s, prices: noPrices(zones, days), path: make([]int, days)}
				if got := a.ask(t); got != want {
					t.Error(cells, zones, days, got)
				}
			}
		}
	}
	if e := fleet.Check(fullSea()); e != api.OK {
		t.Error(e)
	}
}

// P9.1, P9.2 and P9.4: bids that are as defined, at their bounds.
func TestGoodBids(t *testing.T) {
	for _, b := range []api.FleetBid{bid(0, 0, 0, 1, 0), bid(9, 1, 3, 1, 1000000), bid(0, 0, 0, 4, 0), bid(9, 1, 1, 3, 1)} {
		for k := range 4 {
			a := chapterAsked()
			a.bids[k] = b
			if got := a.ask(t); got != (errors{}) {
				t.Error(b, k, got)
			}
		}
	}
	a := chapterAsked()
	for many := range api.FleetBids + 1 {
		a.bids, a.sale = slices.Repeat([]api.FleetBid{bid(0, 0, 0, 4, 1)}, many), 1<<many-1
		if got := a.ask(t); got != (errors{}) {
			t.Error(many, got)
		}
	}
}

// P9.1, P9.2 and P9.4: bids that are not as defined; too many are told first.
func TestBadBids(t *testing.T) {
	bad := []api.FleetBid{
		{}, bid(-1, 0, 0, 1, 0), bid(10, 0, 0, 1, 0), bid(0, -1, 0, 1, 0), bid(0, 2, 0, 1, 0), bid(0, 0, -1, 1, 0), bid(0, 0, -1, 2, 0), bid(0, 0, 4, 1, 0), bid(0, 0, 4, 0, 0),
		bid(0, 0, 0, 0, 0), bid(0, 0, 0, -1, 0), bid(0, 0, 0, 5, 0), bid(0, 0, 3, 2, 0), bid(0, 0, 1, 4, 0), bid(0, 0, 0, 1, -1), bid(0, 0, 0, 1, 1000001),
		bid(math.MinInt, 0, 0, 1, 0), bid(math.MaxInt, 0, 0, 1, 0), bid(0, math.MinInt, 0, 1, 0), bid(0, math.MaxInt, 0, 1, 0), bid(0, 0, math.MinInt, 1, 0), bid(0, 0, math.MaxInt, 1, 0),
		bid(0, 0, 0, math.MinInt, 0), bid(0, 0, 0, math.MaxInt, 0), bid(0, 0, 1, math.MaxInt, 0), bid(0, 0, math.MinInt, math.MinInt, 0), bid(0, 0, math.MaxInt, math.MinInt, 0), bid(0, 0, 0, 1, math.MinInt), bid(0, 0, 0, 1, math.MaxInt),
	}
	for _, b := range bad {
		for k := range 4 {
			a := chapterAsked()
			a.bids[k] = b
			if got := a.ask(t); got != forBids(api.ErrArg) {
				t.Error(b, k, got)
			}
		}
		a := chapterAsked()
		a.bids = slices.Repeat([]api.FleetBid{b}, api.FleetBids+1)
		if got := a.ask(t); got != forBids(api.ErrLong) {
			t.Error(b, got)
		}
	}
}

// P9.1 to P9.4: what is too long is told before anything else.
func TestLong(t *testing.T) {
	for _, many := range []int{11, 12, 63, 64, 65, 1000} {
		a := chapterAsked()
		a.bids = slices.Repeat([]api.FleetBid{bid(0, 0, 0, 1, 0)}, many)
		if got := a.ask(t); got != forBids(api.ErrLong) {
			t.Error(many, got)
		}
		a.sale, a.fleet, a.prices = -1, -1, nil
		if got := a.ask(t); got != forBids(api.ErrLong) {
			t.Error(many, got)
		}
		want := badSea
		want.oversold, want.sell, want.prices, want.ceiling, want.guilty = api.ErrLong, api.ErrLong, api.ErrLong, api.ErrLong, api.ErrLong
		if got := (asked{bids: a.bids}).ask(t); got != want {
			t.Error(many, got)
		}
		b := chapterAsked()
		b.reports = slices.Repeat([]api.FleetReport{on(0, 1)}, many)
		if got := b.ask(t); got != forReports(api.ErrLong) {
			t.Error(many, got)
		}
		b.sale, b.fleet, b.zone, b.path = 16, 10, 2, nil
		b.bids[0].Days = 0
		if got := b.ask(t); got.guilty != api.ErrLong || got.known != api.ErrLong || got.agrees != api.ErrLong || got.cheat != api.ErrLong {
			t.Error(many, got)
		}
		want = badSea
		want.agrees, want.cheat, want.known, want.guilty = api.ErrLong, api.ErrLong, api.ErrLong, api.ErrLong
		if got := (asked{reports: b.reports}).ask(t); got != want {
			t.Error(many, got)
		}
	}
}

// P9.1 and P9.4: sales that are not as defined.
func TestBadSales(t *testing.T) {
	for _, x := range []struct {
		sale, bids int
		e          api.Errno
	}{{0, 4, api.OK}, {15, 4, api.OK}, {16, 4, api.ErrArg}, {-1, 4, api.ErrArg}, {math.MinInt, 4, api.ErrArg}, {math.MaxInt, 4, api.ErrArg}, {0, 0, api.OK}, {1, 0, api.ErrArg}, {7, 3, api.OK}, {8, 3, api.ErrArg}, {9, 3, api.ErrArg}} {
		a := chapterAsked()
		a.sale, a.bids = x.sale, a.bids[:x.bids]
		if got := a.ask(t); got != (errors{oversold: x.e, guilty: x.e}) {
			t.Error(x, got)
		}
	}
	a := chapterAsked()
	a.bids = slices.Repeat(a.bids, 3)[:api.FleetBids]
	for sale, want := range map[int]api.Errno{1023: api.OK, 1024: api.ErrArg} {
		a.sale = sale
		if got := a.ask(t); got != (errors{oversold: want, guilty: want}) {
			t.Error(sale, got)
		}
	}
}

// P9.1: prices that are not as defined.
func TestBadPrices(t *testing.T) {
	for _, x := range []struct {
		prices [][]int
		e      api.Errno
	}{
		{noPrices(2, 4), api.OK}, {[][]int{{1000000, 1000000, 1000000, 1000000}, {0, 1, 2, 3}}, api.OK},
		{nil, api.ErrArg}, {[][]int{}, api.ErrArg}, {noPrices(1, 4), api.ErrArg}, {noPrices(3, 4), api.ErrArg}, {noPrices(2, 3), api.ErrArg}, {noPrices(2, 5), api.ErrArg}, {noPrices(2, 0), api.ErrArg},
		{[][]int{{0, 0, 0, 0}, nil}, api.ErrArg}, {[][]int{nil, {0, 0, 0, 0}}, api.ErrArg}, {[][]int{{0, 0, 0}, {0, 0, 0, 0, 0}}, api.ErrArg},
		{[][]int{{-1, 0, 0, 0}, {0, 0, 0, 0}}, api.ErrArg}, {[][]int{{0, 0, 0, 0}, {0, 0, 0, -1}}, api.ErrArg}, {[][]int{{1000001, 0, 0, 0}, {0, 0, 0, 0}}, api.ErrArg}, {[][]int{{0, 0, 0, 0}, {0, 0, 0, 1000001}}, api.ErrArg},
		{[][]int{{0, math.MinInt, 0, 0}, {0, 0, 0, 0}}, api.ErrArg}, {[][]int{{0, 0, 0, 0}, {0, math.MaxInt, 0, 0}}, api.ErrArg},
	} {
		a := chapterAsked()
		a.prices = x.prices
		if got := a.ask(t); got != (errors{ceiling: x.e}) {
			t.Error(x, got)
		}
	}
}

// P9.3 and P9.4: reports that are not as defined.
func TestBadReports(t *testing.T) {
	for _, bad := range []api.FleetReport{{}, on(-1, 1), on(4, 1), on(0, 0), on(0, -1), on(0, 16), on(0, 17), on(math.MinInt, 1), on(math.MaxInt, 1), on(0, math.MinInt), on(0, math.MaxInt)} {
		for k := range 3 {
			a := chapterAsked()
			a.reports[k] = bad
			if got := a.ask(t); got != forReports(api.ErrArg) {
				t.Error(bad, k, got)
			}
		}
	}
	for _, fine := range []api.FleetReport{on(0, 1), on(3, 15), on(3, 2), on(1, 14)} {
		a := chapterAsked()
		a.reports[2] = fine
		if got := a.ask(t); got != (errors{}) {
			t.Error(fine, got)
		}
	}
}

// P9.3 and P9.4: paths, zones and fleets that are not as defined are told of before it is that reports contradict.
func TestBadTracks(t *testing.T) {
	contradict := []api.FleetReport{on(1, 1), on(1, 2)}
	for _, path := range [][]int{nil, {}, {0}, {0, 1, 2}, {0, 1, 2, 1, 1}, {0, 2, 2, 1}, {0, 1, 3, 3}, {0, 1, 2, 0}, {-1, 0, 0, 0}, {0, 0, 0, -1}, {4, 3, 3, 3}, {3, 3, 3, 4}, {0, math.MinInt, 0, 0}, {0, 0, math.MaxInt, 0}} {
		a := chapterAsked()
		a.path = path
		if got := a.ask(t); got != (errors{agrees: api.ErrArg}) {
			t.Error(path, got)
		}
	}
	for zone, want := range map[int]api.Errno{0: api.OK, 1: api.OK, 2: api.ErrArg, -1: api.ErrArg, math.MinInt: api.ErrArg, math.MaxInt: api.ErrArg} {
		a := chapterAsked()
		a.zone = zone
		if got := a.ask(t); got != (errors{known: want}) {
			t.Error(zone, got)
		}
		a.reports = contradict
		if got := a.ask(t); got.known != api.ErrRule && want == api.OK || got.known != want && want != api.OK {
			t.Error(zone, got)
		}
	}
	for number, want := range map[int]api.Errno{0: api.OK, 9: api.OK, 10: api.ErrArg, -1: api.ErrArg, math.MinInt: api.ErrArg, math.MaxInt: api.ErrArg} {
		a := chapterAsked()
		a.fleet = number
		if got := a.ask(t); got != (errors{guilty: want}) {
			t.Error(number, got)
		}
		a.reports = contradict
		if got := a.ask(t); got.guilty != api.ErrRule && want == api.OK || got.guilty != want && want != api.OK {
			t.Error(number, got)
		}
	}
}

// P0.9: whatever the arguments are, the functions return.
func TestAnyArguments(t *testing.T) {
	extremes := []int{math.MinInt, math.MinInt32, -1, 0, 1, 2, 3, 4, 8, 15, 16, math.MaxInt32, math.MaxInt}
	var a asked
	begin := func() []*int {
		a = chapterAsked()
		s := &a.sea
		return []*int{
			&s.Cells, &s.Roads[0], &s.Roads[3], &s.Zones[1], &s.Berths[0], &s.Days, &a.bids[0].Fleet, &a.bids[1].Zone, &a.bids[1].From, &a.bids[1].Days, &a.bids[3].Price,
			&a.sale, &a.fleet, &a.prices[0][1], &a.reports[0].Day, &a.reports[2].Cells, &a.path[1], &a.path[3], &a.zone,
		}
	}
	for i := range begin() {
		for j := range i + 1 {
			for _, u := range extremes {
				for _, v := range extremes {
					all := begin()
					*all[i], *all[j] = u, v
					wantAny(t, a)
				}
			}
		}
	}
	for n := range 13 {
		s := api.FleetSea{Cells: n, Roads: make([]int, n), Zones: make([]int, n), Berths: make([]int, n), Days: n}
		wantAny(t, asked{sea: s, bids: make([]api.FleetBid, n), sale: n, prices: noPrices(n, n), reports: make([]api.FleetReport, n), path: make([]int, n), zone: n})
		wantAny(t, asked{sea: chapterSea(), bids: make([]api.FleetBid, n), sale: n, fleet: n, prices: noPrices(n, n), reports: make([]api.FleetReport, n), path: make([]int, n), zone: n})
	}
}

// wantAny asks for errors that agree with each other.
func wantAny(t *testing.T, a asked) {
	t.Helper()
	got := a.ask(t)
	if got.check != api.OK {
		if got.check != api.ErrArg || got.sell == api.OK || got.cheat == api.OK {
			t.Error(a, got)
		}
	}
	if got.sell != got.prices || got.sell != api.OK && (got.oversold != got.sell || got.ceiling != got.sell || got.guilty == api.OK) {
		t.Error(a, got)
	}
	if got.cheat != api.OK && (got.agrees != got.cheat || got.known != got.cheat || got.guilty == api.OK) {
		t.Error(a, got)
	}
	for _, e := range []api.Errno{got.oversold, got.sell, got.prices, got.ceiling, got.agrees, got.cheat} {
		if e != api.OK && e != api.ErrArg && e != api.ErrLong {
			t.Error(a, got)
		}
	}
}

// R3: nil and empty lists are the same.
func TestNilAndEmpty(t *testing.T) {
	a, b := chapterAsked(), chapterAsked()
	a.bids, b.bids = nil, []api.FleetBid{}
	a.reports, b.reports = nil, []api.FleetReport{}
	a.sale, b.sale = 0, 0
	if !slices.Equal(allNumbers(a), allNumbers(b)) {
		t.Error(allNumbers(a), allNumbers(b))
	}
	if got := a.ask(t); got != (errors{}) || got != b.ask(t) {
		t.Error(got)
	}
}

// R4 and R8: equal calls have equal results, whatever was done to the results of others, and leave their arguments as they are.
func TestRepeated(t *testing.T) {
	r := rand.New(rand.NewSource(128))
	for range 1000 {
		s := anySea(r)
		a := asked{sea: s, bids: anyBids(r, s), fleet: r.Intn(3), prices: noPrices(len(s.Zones), s.Days), reports: anyReports(r, s), path: randomPath(r, s), zone: r.Intn(len(s.Zones))}
		a.sale = r.Intn(1 << len(a.bids))
		a.prices[a.zone][s.Days-1] = r.Intn(10)
		sea, bids, prices, reports, path := cloneSea(s), slices.Clone(a.bids), cloneLists(a.prices), slices.Clone(a.reports), slices.Clone(a.path)
		first := allNumbers(a)
		again := allNumbers(a)
		if !slices.Equal(first, again) {
			t.Fatal(a, first, again)
		}
		if !sameSea(a.sea, sea) || !slices.Equal(a.bids, bids) || !sameLists(a.prices, prices) || !slices.Equal(a.reports, reports) || !slices.Equal(a.path, path) {
			t.Fatal("changed", a, sea, bids, prices, reports, path)
		}
	}
}

// allNumbers returns all that is told, as numbers, and spoils the lists in which it was told.
func allNumbers(a asked) []int {
	place, e := fleet.Oversold(a.sea, a.bids, a.sale)
	told := []int{place.Zone, place.Day, int(e)}
	sale, revenue, e := fleet.Sell(a.sea, a.bids)
	told = append(told, sale, revenue, int(e))
	prices, e := fleet.Prices(a.sea, a.bids)
	for _, list := range prices {
		told = append(append(told, list...), int(e))
		clear(list)
		_ = append(list, -7)
	}
	n, e := fleet.Ceiling(a.sea, a.bids, a.prices)
	is, e2 := fleet.Agrees(a.sea, a.reports, a.path)
	if is {
		n = -n
	}
	told = append(told, n, int(e), int(e2))
	list, e := fleet.Cheat(a.sea, a.reports)
	told = append(append(told, list...), int(e))
	clear(list)
	words, e := fleet.Known(a.sea, a.reports, a.zone)
	for k, w := range words {
		told = append(told, int(w))
		words[k] = 0
	}
	places, e2 := fleet.Guilty(a.sea, a.bids, a.sale, a.fleet, a.reports)
	for k, p := range places {
		told = append(told, p.Zone, p.Day)
		places[k] = at(-7, -7)
	}
	return append(told, int(e), int(e2))
}
