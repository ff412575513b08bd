package fleet

import (
	"motu/api"
	"motu/bounds"
	"motu/set"
)

func isSea(s api.FleetSea) bool {
	return bounds.In(s.Cells, 1, api.FleetCells) && len(s.Roads) == s.Cells && areSets(s, s.Roads) &&
		bounds.In(len(s.Zones), 1, api.FleetZones) && areSets(s, s.Zones) &&
		len(s.Berths) == len(s.Zones) && bounds.AllIn(s.Berths, 0, api.FleetBerths) &&
		bounds.In(s.Days, 1, api.FleetDays)
}

// allCells returns the set of all cells of a sea, which is the greatest one.
func allCells(s api.FleetSea) int { return 1<<s.Cells - 1 }

func areSets(s api.FleetSea, list []int) bool { return bounds.AllIn(list, 0, allCells(s)) }

func isZone(s api.FleetSea, zone int) bool { return bounds.In(zone, 0, len(s.Zones)-1) }

func isFleet(fleet int) bool { return bounds.In(fleet, 0, api.FleetFleets-1) }

func areManyBids(bids []api.FleetBid) bool { return len(bids) > api.FleetBids }

// areBids reports whether bids are for zones and days of which there are so many.
func areBids(bids []api.FleetBid, zones, days int) bool {
	for _, b := range bids {
		if !isFleet(b.Fleet) || !bounds.In(b.Zone, 0, zones-1) || !bounds.In(b.From, 0, days-1) || !bounds.In(b.Days, 1, days-b.From) || !isPrice(b.Price) {
			return false
		}
	}
	return true
}

func isPrice(price int) bool { return bounds.In(price, 0, api.FleetPrice) }

// checkBids returns the error of bids that are for any sea.
func checkBids(bids []api.FleetBid) api.Errno {
	if areManyBids(bids) {
		return api.ErrLong
	}
	if !areBids(bids, api.FleetZones, api.FleetDays) {
		return api.ErrArg
	}
	return api.OK
}

func isSale(sale int, bids []api.FleetBid) bool { return bounds.In(sale, 0, 1<<len(bids)-1) }

func isMarket(m market) bool { return isSea(m.FleetSea) && areBids(m.bids, len(m.Zones), m.Days) }

func arePrices(s api.FleetSea, prices [][]int) bool {
	if len(prices) != len(s.Zones) {
		return false
	}
	for _, days := range prices {
		if len(days) != s.Days || !bounds.AllIn(days, 0, api.FleetPrice) {
			return false
		}
	}
	return true
}

func areManyReports(reports []api.FleetReport) bool { return len(reports) > api.FleetReports }

func isWatched(w watched) bool {
	if !isSea(w.FleetSea) {
		return false
	}
	for _, r := range w.reports {
		if !bounds.In(r.Day, 0, w.Days-1) || !bounds.In(r.Cells, 1, allCells(w.FleetSea)) {
			return false
		}
	}
	return true
}

func isPath(w watched, path []int) bool {
	if len(path) != w.Days || !bounds.AllIn(path, 0, w.Cells-1) {
		return false
	}
	for day := 1; day < w.Days; day++ {
		if !w.after(set.Of(path[day-1])).Has(path[day]) {
			return false
		}
	}
	return true
}
