package fleet_test

import (
	"fmt"
	"math/rand"
	"slices"
	"testing"

	"motu/api"
	"motu/fleet"
)

const chapterBook = "0 0 0 2 30 1\n1 0 1 3 50 0\n0 0 2 2 25 1\n2 1 0 4 40 1\nend 4 359\n"

func bid(fleet, zone, from, days, price int) api.FleetBid {
	return api.FleetBid{Fleet: fleet, Zone: zone, From: from, Days: days, Price: price}
}

func on(day, cells int) api.FleetReport { return api.FleetReport{Day: day, Cells: cells} }

func at(zone, day int) api.FleetPlace { return api.FleetPlace{Zone: zone, Day: day} }

// chapterSea returns the sea s of the chapter's examples.
func chapterSea() api.FleetSea {
	return api.FleetSea{Cells: 4, Roads: []int{2, 5, 10, 4}, Zones: []int{3, 12}, Berths: []int{1, 2}, Days: 4}
}

func chapterBids() []api.FleetBid {
	return []api.FleetBid{bid(0, 0, 0, 2, 30), bid(1, 0, 1, 3, 50), bid(0, 0, 2, 2, 25), bid(2, 1, 0, 4, 40)}
}

// chapterReports returns the reports r of the chapter's examples.
func chapterReports() []api.FleetReport { return []api.FleetReport{on(0, 1), on(2, 12), on(3, 3)} }

func chapterPrices() [][]int { return [][]int{{5, 25, 25, 0}, {0, 0, 0, 0}} }

// noPrices returns prices of days that cost nothing.
func noPrices(zones, days int) [][]int {
	prices := make([][]int, zones)
	for zone := range prices {
		prices[zone] = make([]int, days)
	}
	return prices
}

// fullSea returns a sea in which there is as much of all as there may be.
func fullSea() api.FleetSea {
	s := api.FleetSea{Cells: api.FleetCells, Days: api.FleetDays}
	s.Roads = slices.Repeat([]int{255}, api.FleetCells)
	s.Zones = slices.Repeat([]int{255}, api.FleetZones)
	s.Berths = slices.Repeat([]int{api.FleetBerths}, api.FleetZones)
	return s
}

func cloneSea(s api.FleetSea) api.FleetSea {
	s.Roads, s.Zones, s.Berths = slices.Clone(s.Roads), slices.Clone(s.Zones), slices.Clone(s.Berths)
	return s
}

func sameSea(a, b api.FleetSea) bool {
	return a.Cells == b.Cells && slices.Equal(a.Roads, b.Roads) && slices.Equal(a.Zones, b.Zones) && slices.Equal(a.Berths, b.Berths) && a.Days == b.Days
}

func cloneLists(lists [][]int) [][]int {
	var all [][]int
	for _, list := range lists {
		all = append(all, slices.Clone(list))
	}
	return all
}

func sameLists(a, b [][]int) bool { return slices.EqualFunc(a, b, slices.Equal) }

// inSet reports whether a number is one of a set.
func inSet(set, n int) bool { return set/(1<<n)%2 == 1 }

// hasPlace reports whether a bid is for a zone, with a day.
func hasPlace(b api.FleetBid, p api.FleetPlace) bool {
	return b.Zone == p.Zone && p.Day-b.From >= 0 && p.Day-b.From <= b.Days-1
}

// plainOversold returns all places that are oversold, by zone, then by day.
func plainOversold(s api.FleetSea, bids []api.FleetBid, sale int) []api.FleetPlace {
	var places []api.FleetPlace
	for zone := range s.Zones {
		for day := range s.Days {
			free := s.Berths[zone]
			for k, b := range bids {
				if inSet(sale, k) && hasPlace(b, at(zone, day)) {
					free--
				}
			}
			if free < 0 {
				places = append(places, at(zone, day))
			}
		}
	}
	return places
}

func plainRevenue(bids []api.FleetBid, sale int) int {
	sum := 0
	for k, b := range bids {
		if inSet(sale, k) {
			sum += b.Price
		}
	}
	return sum
}

// plainSell goes through all sales from the greatest number down.
func plainSell(s api.FleetSea, bids []api.FleetBid) (sale, revenue int) {
	for k := 1<<len(bids) - 1; k >= 0; k-- {
		if n := plainRevenue(bids, k); n >= revenue && len(plainOversold(s, bids, k)) == 0 {
			sale, revenue = k, n
		}
	}
	return sale, revenue
}

// plainCeiling is the definition of a ceiling, written down a second time: place by place.
func plainCeiling(s api.FleetSea, bids []api.FleetBid, prices [][]int) int {
	sum, left := 0, make([]int, len(bids))
	for k, b := range bids {
		left[k] = b.Price
	}
	for zone := range s.Zones {
		for day := range s.Days {
			sum += prices[zone][day] * s.Berths[zone]
			for k, b := range bids {
				if hasPlace(b, at(zone, day)) {
					left[k] -= prices[zone][day]
				}
			}
		}
	}
	for _, n := range left {
		if n > 0 {
			sum += n
		}
	}
	return sum
}

// canGo reports whether a boat can go from a cell to another one in a day, or stay.
func canGo(s api.FleetSea, from, to int) bool { return from == to || inSet(s.Roads[from], to) }

// plainPaths goes through all paths that agree with some reports.
func plainPaths(s api.FleetSea, reports []api.FleetReport, look func(path []int)) {
	path := make([]int, s.Days)
	var goOn func(day int)
	goOn = func(day int) {
		if day == s.Days {
			look(path)
			return
		}
		for cell := range s.Cells {
			if (day == 0 || canGo(s, path[day-1], cell)) && fits(reports, day, cell) {
				path[day] = cell
				goOn(day + 1)
			}
		}
	}
	goOn(0)
}

// fits reports whether no report of a day rules a cell out.
func fits(reports []api.FleetReport, day, cell int) bool {
	for _, x := range reports {
		if x.Day == day && !inSet(x.Cells, cell) {
			return false
		}
	}
	return true
}

// plainCells returns for each day the cells of all paths that agree with some reports: whether one leads to a cell, and one on from it, is asked for each cell alone.
func plainCells(s api.FleetSea, reports []api.FleetReport) []int {
	var comes, goes func(day, cell int) bool
	comes = func(day, cell int) bool {
		if !fits(reports, day, cell) || day == 0 {
			return fits(reports, day, cell)
		}
		return anyCell(s, func(from int) bool { return canGo(s, from, cell) && comes(day-1, from) })
	}
	goes = func(day, cell int) bool {
		if !fits(reports, day, cell) || day == s.Days-1 {
			return fits(reports, day, cell)
		}
		return anyCell(s, func(to int) bool { return canGo(s, cell, to) && goes(day+1, to) })
	}
	comes, goes = once(comes), once(goes)
	sets := make([]int, s.Days)
	for day := range sets {
		for cell := range s.Cells {
			if comes(day, cell) && goes(day, cell) {
				sets[day] += 1 << cell
			}
		}
	}
	return sets
}

func anyCell(s api.FleetSea, holds func(cell int) bool) bool {
	for cell := range s.Cells {
		if holds(cell) {
			return true
		}
	}
	return false
}

// once returns a function that asks another one just once for each day and cell.
func once(ask func(day, cell int) bool) func(day, cell int) bool {
	known := map[[2]int]bool{}
	return func(day, cell int) bool {
		is, ok := known[[2]int{day, cell}]
		if !ok {
			is = ask(day, cell)
			known[[2]int{day, cell}] = is
		}
		return is
	}
}

// pick returns the reports of a list of numbers.
func pick(reports []api.FleetReport, numbers []int) []api.FleetReport {
	var picked []api.FleetReport
	for _, k := range numbers {
		picked = append(picked, reports[k])
	}
	return picked
}

// without returns the reports but one.
func without(reports []api.FleetReport, k int) []api.FleetReport {
	return slices.Delete(slices.Clone(reports), k, k+1)
}

func plainTrue(s api.FleetSea, reports []api.FleetReport) bool { return plainCells(s, reports)[0] > 0 }

// plainCheat goes through the lists of so many numbers of reports in lexicographic order, shorter ones first.
func plainCheat(s api.FleetSea, reports []api.FleetReport) []int {
	for size := range len(reports) + 1 {
		var found []int
		var goOn func(list []int, next int)
		goOn = func(list []int, next int) {
			if len(list) == size && found == nil && !plainTrue(s, pick(reports, list)) {
				found = slices.Clone(list)
			}
			for k := next; k < len(reports) && len(list) < size && found == nil; k++ {
				goOn(append(list, k), k+1)
			}
		}
		goOn(nil, 0)
		if found != nil {
			return found
		}
	}
	return nil
}

// plainWord returns what is known of a zone if a boat was in one of some cells.
func plainWord(s api.FleetSea, cells, zone int) api.FleetWord {
	in, out := false, false
	for cell := range s.Cells {
		if inSet(cells, cell) {
			in, out = in || inSet(s.Zones[zone], cell), out || !inSet(s.Zones[zone], cell)
		}
	}
	switch {
	case !out:
		return api.FleetSurely
	case !in:
		return api.FleetNot
	}
	return api.FleetMay
}

func plainKnown(s api.FleetSea, reports []api.FleetReport, zone int) []api.FleetWord {
	var words []api.FleetWord
	for _, cells := range plainCells(s, reports) {
		words = append(words, plainWord(s, cells, zone))
	}
	return words
}

// plainGuilty is the definition of guilty, written down a second time.
func plainGuilty(s api.FleetSea, bids []api.FleetBid, sale, fleet int, reports []api.FleetReport) []api.FleetPlace {
	var places []api.FleetPlace
	for zone := range s.Zones {
		for day, word := range plainKnown(s, reports, zone) {
			licences := 0
			for k, b := range bids {
				if inSet(sale, k) && b.Fleet == fleet && hasPlace(b, at(zone, day)) {
					licences++
				}
			}
			if word == api.FleetSurely && licences == 0 {
				places = append(places, at(zone, day))
			}
		}
	}
	return places
}

// plainBook is the section 'Licence books', written down a second time.
func plainBook(bids []api.FleetBid, sale int) string {
	text, place, sum := "", 0, 0
	for k, b := range bids {
		row := []int{b.Fleet, b.Zone, b.From, b.Days, b.Price, sale / (1 << k) % 2}
		for _, n := range row {
			place++
			sum += place * n
		}
		text += fmt.Sprintf("%d %d %d %d %d %d\n", row[0], row[1], row[2], row[3], row[4], row[5])
	}
	return text + fmt.Sprintf("end %d %03d\n", len(bids), sum%499)
}

// randomSea returns a sea with so many cells and days.
func randomSea(r *rand.Rand, cells, days int) api.FleetSea {
	s := api.FleetSea{Cells: cells, Days: days}
	all := 1 << cells
	for range cells {
		s.Roads = append(s.Roads, r.Intn(all)&r.Intn(all)&r.Intn(all))
	}
	for range 1 + r.Intn(api.FleetZones) {
		s.Zones, s.Berths = append(s.Zones, r.Intn(all)), append(s.Berths, r.Intn(api.FleetBerths+1)*r.Intn(3)/2)
	}
	return s
}

// anySea returns a sea of any size.
func anySea(r *rand.Rand) api.FleetSea {
	return randomSea(r, 1+r.Intn(api.FleetCells), 1+r.Intn(api.FleetDays))
}

// randomBids returns bids of at most some price, so that several sales bring as much if it is low.
func randomBids(r *rand.Rand, s api.FleetSea, many, price int) []api.FleetBid {
	var bids []api.FleetBid
	for range many {
		from := r.Intn(s.Days)
		bids = append(bids, bid(r.Intn(3), r.Intn(len(s.Zones)), from, 1+r.Intn(s.Days-from), r.Intn(price+1)))
	}
	return bids
}

// anyBids returns bids of any number.
func anyBids(r *rand.Rand, s api.FleetSea) []api.FleetBid {
	return randomBids(r, s, r.Intn(api.FleetBids+1), []int{2, 20, api.FleetPrice}[r.Intn(3)])
}

func randomPath(r *rand.Rand, s api.FleetSea) []int {
	path := []int{r.Intn(s.Cells)}
	for len(path) < s.Days {
		if cell := r.Intn(s.Cells); canGo(s, path[len(path)-1], cell) {
			path = append(path, cell)
		}
	}
	return path
}

// randomReports returns reports that need not be true.
func randomReports(r *rand.Rand, s api.FleetSea, many int) []api.FleetReport {
	var reports []api.FleetReport
	for range many {
		reports = append(reports, on(r.Intn(s.Days), 1+r.Intn(1<<s.Cells-1)))
	}
	return reports
}

// trueReports returns reports that are true of a path.
func trueReports(r *rand.Rand, s api.FleetSea, path []int, many int) []api.FleetReport {
	reports := randomReports(r, s, many)
	for k, x := range reports {
		reports[k].Cells = x.Cells&r.Intn(1<<s.Cells) | 1<<path[x.Day]
	}
	return reports
}

// anyReports returns reports that are true of a path, all but one perhaps.
func anyReports(r *rand.Rand, s api.FleetSea) []api.FleetReport {
	reports := trueReports(r, s, randomPath(r, s), r.Intn(api.FleetReports))
	return append(reports, randomReports(r, s, r.Intn(2))...)
}

func sell(t *testing.T, s api.FleetSea, bids []api.FleetBid) (sale, revenue int) {
	t.Helper()
	sale, revenue, e := fleet.Sell(s, bids)
	if e != api.OK {
		t.Fatal(s, bids, sale, revenue, e)
	}
	return sale, revenue
}

func prices(t *testing.T, s api.FleetSea, bids []api.FleetBid) [][]int {
	t.Helper()
	list, e := fleet.Prices(s, bids)
	if e != api.OK {
		t.Fatal(s, bids, list, e)
	}
	return list
}

func ceiling(t *testing.T, s api.FleetSea, bids []api.FleetBid, prices [][]int) int {
	t.Helper()
	n, e := fleet.Ceiling(s, bids, prices)
	if e != api.OK {
		t.Fatal(s, bids, prices, n, e)
	}
	return n
}

// isTrue reports whether no reports contradict.
func isTrue(t *testing.T, s api.FleetSea, reports []api.FleetReport) bool {
	t.Helper()
	list, e := fleet.Cheat(s, reports)
	if e != api.OK && e != api.ErrNone {
		t.Fatal(s, reports, list, e)
	}
	return e == api.ErrNone
}

func known(t *testing.T, s api.FleetSea, reports []api.FleetReport, zone int) []api.FleetWord {
	t.Helper()
	words, e := fleet.Known(s, reports, zone)
	if e != api.OK || len(words) != s.Days {
		t.Fatal(s, reports, zone, words, e)
	}
	return words
}
