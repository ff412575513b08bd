package fleet

import (
	"motu/api"
	"motu/queue"
	"motu/set"
)

// rule is that all days before a day cost at least so much more together than all days before another one.
type rule struct {
	day   int
	other int
	more  int
}

// rules returns what the prices of the days of a zone must keep to, so that their ceiling is what a sale brings. The best sale lets all of it be kept: as the days of each bid follow each other, parts of bids could bring no more than whole ones do.
func (m market) rules(zone int, sale set.Set) []rule {
	var rules []rule
	boats := m.boats(sale)
	for day := range m.Days {
		rules = append(rules, rule{day: day + 1, other: day})
		if boats[zone][day] < m.Berths[zone] {
			// a day that has a berth left costs nothing
			rules = append(rules, rule{day: day, other: day + 1})
		}
	}
	for number, b := range m.bids {
		if b.Zone == zone {
			rules = append(rules, bidRule(b, sale.Has(number)))
		}
	}
	return rules
}

// bidRule returns what a bid asks for: its days cost no more than it pays if it is sold, and no less if it is not.
func bidRule(b api.FleetBid, isSold bool) rule {
	if isSold {
		return rule{day: b.From, other: endOf(b), more: -b.Price}
	}
	return rule{day: endOf(b), other: b.From, more: b.Price}
}

// prices returns prices of days that prove that no sale brings more than the best one.
func (m market) prices() [][]int {
	sale := m.best().Set
	prices := make([][]int, len(m.Zones))
	for zone := range prices {
		before := m.before(m.rules(zone, sale))
		for day := range m.Days {
			prices[zone] = append(prices[zone], before[day+1]-before[day])
		}
	}
	return prices
}

// before returns what all days before each day cost together, and at last what all days do: the least that keeps to rules, so that no day costs more than the dearest bid that is not sold. A day that was raised waits until the others are raised by its rules.
func (m market) before(rules []rule) []int {
	before := make([]int, m.Days+1)
	var raised queue.Queue[int]
	for day := range before {
		raised.Add(day)
	}
	for other := range raised.All() {
		for _, r := range rules {
			if least := before[other] + r.more; r.other == other && before[r.day] < least {
				before[r.day] = least
				raised.Add(r.day)
			}
		}
	}
	return before
}
