package council_test

import (
	"math/rand"
	"slices"
	"testing"

	"motu/api"
	"motu/council"
	"motu/fleet"
)

func wantSale(t *testing.T, c *council.Council, sale, revenue int) {
	t.Helper()
	if s, n, e := c.Sale(); s != sale || n != revenue || e != api.OK {
		t.Error(s, n, e)
	}
}

// P10.6: bids in the order in which they are noted, and the award, which adds what the best sale brings.
func TestChapterSale(t *testing.T) {
	c := open(t, chapterAtoll(7))
	wantSale(t, c, 0, 0)
	checkAll(t, check{c.Bid(bid(0, 0, 0, 2, 30)), api.OK})
	wantSale(t, c, 1, 30)
	checkAll(t, check{c.Bid(bid(1, 0, 1, 3, 50)), api.OK})
	wantSale(t, c, 2, 50)
	checkAll(t, check{c.Bid(bid(0, 0, 2, 2, 25)), api.OK}, check{c.Bid(bid(2, 1, 0, 4, 40)), api.OK})
	wantSale(t, c, 13, 95)
	for _, b := range []api.FleetBid{bid(-1, 0, 0, 1, 1), bid(10, 0, 0, 1, 1), bid(0, -1, 0, 1, 1), bid(0, 2, 0, 1, 1), bid(0, 0, -1, 1, 1), bid(0, 0, 4, 1, 1), bid(0, 0, 0, 0, 1), bid(0, 0, 0, 5, 1), bid(0, 0, 3, 2, 1), bid(0, 0, 0, 1, -1), bid(0, 0, 0, 1, 1000001)} {
		checkAll(t, check{c.Bid(b), api.ErrArg})
	}
	if n := money(t, c); n != 7 {
		t.Error(n)
	}
	checkAll(t, check{c.Award(), api.OK}, check{c.Award(), api.ErrState}, check{c.Bid(bid(0, 0, 0, 1, 1)), api.ErrState}, check{c.Bid(bid(0, 0, 0, 5, 1)), api.ErrArg})
	wantSale(t, c, 13, 95)
	if n := money(t, c); n != 7+95 {
		t.Error(n)
	}
	c = open(t, chapterAtoll(7))
	checkAll(t, check{c.Award(), api.OK}, check{c.Award(), api.ErrState}, check{c.Bid(bid(0, 0, 0, 1, 1)), api.ErrState})
	if n := money(t, c); n != 7 {
		t.Error(n)
	}
}

// P10.6: what was awarded can be spent, and reports are noted after the award, too.
func TestAfterAward(t *testing.T) {
	c := open(t, chapterAtoll(0))
	checkAll(t, check{c.Tank(), api.ErrRule}, check{c.Bid(bid(0, 0, 0, 1, 10)), api.OK}, check{c.Tank(), api.ErrRule}, check{c.Award(), api.OK}, check{c.Tank(), api.OK}, check{c.Tank(), api.ErrRule})
	checkAll(t, check{c.Report(report(0, 1)), api.OK}, check{c.Report(report(1, 8)), api.OK})
	if list, e := c.Cheat(); !slices.Equal(list, []int{0, 1}) || e != api.OK {
		t.Error(list, e)
	}
}

func wantCheat(t *testing.T, c *council.Council, want api.Errno, numbers ...int) {
	t.Helper()
	if list, e := c.Cheat(); !slices.Equal(list, numbers) || e != want {
		t.Error(list, e)
	}
}

// P10.6: reports in the order in which they are noted.
func TestChapterReports(t *testing.T) {
	c := open(t, chapterAtoll(0))
	wantCheat(t, c, api.ErrNone)
	for _, x := range []api.FleetReport{report(-1, 1), report(4, 1), report(0, 0), report(0, -1), report(0, 16)} {
		checkAll(t, check{c.Report(x), api.ErrArg})
	}
	checkAll(t, check{c.Report(report(0, 1)), api.OK}, check{c.Report(report(1, 6)), api.OK})
	wantCheat(t, c, api.ErrNone)
	checkAll(t, check{c.Report(report(2, 8)), api.OK})
	wantCheat(t, c, api.OK, 0, 2)
	checkAll(t, check{c.Report(report(2, 7)), api.OK}, check{c.Report(report(3, 15)), api.OK})
	wantCheat(t, c, api.OK, 0, 2)
	checkAll(t, check{c.Award(), api.OK}, check{c.Report(report(0, 12)), api.OK})
	wantCheat(t, c, api.OK, 0, 2)
}

// P0.9, P10.6: no zone is sold twice by what is awarded, and no sale of the bids brings more.
func TestAllSales(t *testing.T) {
	r := rand.New(rand.NewSource(110))
	refused := 0
	for range 300 {
		a := chapterAtoll(r.Intn(100))
		a.Fishing = randomFishing(r)
		c := open(t, a)
		var bids []api.FleetBid
		for range r.Intn(api.FleetBids) {
			from := r.Intn(a.Fishing.Days)
			b := bid(r.Intn(10), r.Intn(len(a.Fishing.Zones)), from, 1+r.Intn(a.Fishing.Days-from), r.Intn(20))
			checkAll(t, check{c.Bid(b), api.OK})
			bids = append(bids, b)
		}
		sale, revenue, e := c.Sale()
		if _, allowed := fleet.Oversold(a.Fishing, bids, sale); e != api.OK || allowed != api.ErrNone || revenueOf(bids, sale) != revenue {
			t.Fatal(a.Fishing, bids, sale, revenue, e)
		}
		for s := range 1 << len(bids) {
			n := revenueOf(bids, s)
			if isAllowed(a.Fishing, bids, s) && (n > revenue || n == revenue && s < sale) {
				t.Fatal(a.Fishing, bids, sale, s)
			}
		}
		if sale != 1<<len(bids)-1 {
			refused++
		}
		checkAll(t, check{c.Award(), api.OK})
		wantSale(t, c, sale, revenue)
		if n := money(t, c); n != a.Money+revenue {
			t.Fatal(a.Fishing, bids, n)
		}
	}
	if refused < 100 {
		t.Error(refused)
	}
}

// canBeTrue reports whether some path agrees with reports.
func canBeTrue(t *testing.T, s api.FleetSea, reports []api.FleetReport) bool {
	t.Helper()
	var goOn func(path []int) bool
	goOn = func(path []int) bool {
		if len(path) == s.Days {
			is, e := fleet.Agrees(s, reports, path)
			if e != api.OK {
				t.Fatal(s, path, e)
			}
			return is
		}
		for cell := range s.Cells {
			last := path[len(path)-1]
			if (cell == last || s.Roads[last]>>cell%2 == 1) && goOn(append(slices.Clone(path), cell)) {
				return true
			}
		}
		return false
	}
	return slices.ContainsFunc([]int{0, 1, 2, 3}[:s.Cells], func(cell int) bool { return goOn([]int{cell}) })
}

// P0.9, P10.6: reports that are told contradict, and without any one of them they do not; if none are told, some path agrees with all.
func TestAllPaths(t *testing.T) {
	r := rand.New(rand.NewSource(111))
	cheats, honest := 0, 0
	for range 200 {
		a := chapterAtoll(0)
		a.Fishing = randomFishing(r)
		c := open(t, a)
		var reports []api.FleetReport
		for range 1 + r.Intn(5) {
			x := report(r.Intn(a.Fishing.Days), 1+r.Intn(1<<a.Fishing.Cells-1))
			checkAll(t, check{c.Report(x), api.OK})
			reports = append(reports, x)
		}
		numbers, e := c.Cheat()
		if canBeTrue(t, a.Fishing, reports) {
			honest++
			if e != api.ErrNone || len(numbers) != 0 {
				t.Fatal(a.Fishing, reports, numbers, e)
			}
			continue
		}
		cheats++
		var told []api.FleetReport
		for _, n := range numbers {
			told = append(told, reports[n])
		}
		if e != api.OK || canBeTrue(t, a.Fishing, told) {
			t.Fatal(a.Fishing, reports, numbers, e)
		}
		for k := range told {
			if !canBeTrue(t, a.Fishing, slices.Delete(slices.Clone(told), k, k+1)) {
				t.Fatal(a.Fishing, reports, numbers)
			}
		}
	}
	if cheats < 30 || honest < 30 {
		t.Error(cheats, honest)
	}
}
