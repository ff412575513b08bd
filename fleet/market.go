package fleet

import (
	"iter"

	"motu/amount"
	"motu/api"
	"motu/best"
	"motu/first"
	"motu/set"
)

// market is a sea with the bids for its days.
type market struct {
	api.FleetSea
	bids []api.FleetBid
}

// endOf returns the day after the days of a bid.
func endOf(b api.FleetBid) int { return b.From + b.Days }

func hasDay(b api.FleetBid, day int) bool { return b.From <= day && day < endOf(b) }

// sold yields the bids of a sale.
func (m market) sold(sale set.Set) iter.Seq[api.FleetBid] {
	return func(yield func(api.FleetBid) bool) {
		for number := range sale.All() {
			if !yield(m.bids[number]) {
				return
			}
		}
	}
}

// boats returns how many bids of a sale are for each zone on each day.
func (m market) boats(sale set.Set) [api.FleetZones][api.FleetDays]int {
	var boats [api.FleetZones][api.FleetDays]int
	for b := range m.sold(sale) {
		for day := b.From; day < endOf(b); day++ {
			boats[b.Zone][day]++
		}
	}
	return boats
}

// oversold returns the first zone that is oversold, and its first such day, and whether there is one.
func (m market) oversold(sale set.Set) (place api.FleetPlace, found bool) {
	boats := m.boats(sale)
search:
	for zone, berths := range m.Berths {
		for day := range m.Days {
			if boats[zone][day] > berths {
				place, found = api.FleetPlace{Zone: zone, Day: day}, true
				break search
			}
		}
	}
	return place, found
}

// isLicensed reports whether a sale gives a fleet a zone on a day.
func (m market) isLicensed(fleet int, place api.FleetPlace, sale set.Set) bool {
	_, is := first.Of(m.sold(sale), func(b api.FleetBid) bool {
		return b.Fleet == fleet && b.Zone == place.Zone && hasDay(b, place.Day)
	})
	return is
}

// earning is a sale and its revenue.
type earning struct {
	set.Set
	revenue int
}

func (m market) earn(sale set.Set) earning {
	x := earning{Set: sale}
	for b := range m.sold(sale) {
		x.revenue += b.Price
	}
	return x
}

// allowed yields the allowed sales, as increasing numbers.
func (m market) allowed() iter.Seq[earning] {
	return func(yield func(earning) bool) {
		for number := range 1 << len(m.bids) {
			sale := set.Set(number)
			if _, is := m.oversold(sale); !is && !yield(m.earn(sale)) {
				return
			}
		}
	}
}

// best returns the best sale. There is one, as the sale of no bids is allowed.
func (m market) best() earning {
	kept, _ := best.Of(m.allowed(), func(a, b earning) bool { return a.revenue > b.revenue })
	return kept
}

// ceiling returns the ceiling of prices of days.
func (m market) ceiling(prices [][]int) int {
	ceiling := 0
	for zone, days := range prices {
		ceiling += m.Berths[zone] * amount.Sum(days...)
	}
	for _, b := range m.bids {
		days := prices[b.Zone][b.From:endOf(b)]
		ceiling += max(0, b.Price-amount.Sum(days...))
	}
	return ceiling
}
