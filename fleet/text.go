package fleet

import (
	"strconv"

	"motu/api"
	"motu/bounds"
	"motu/decimal"
	"motu/lines"
	"motu/lists"
	"motu/rows"
	"motu/set"
)

// The numbers of a line of a book, by their places.
const (
	fleetPlace = iota
	zonePlace
	fromPlace
	daysPlace
	pricePlace
	soldPlace // 1 if the bid is one of the sale, 0 if not
	lineNumbers
)

const checkDigits = 3

// books returns the kind of text that licence books are. The modulus is a prime, so that the CHECK tells when a digit was changed.
func books() rows.Kind { return rows.Kind{Numbers: lineNumbers, Digits: 7, Modulus: 499, End: endLine} }

// endLine returns the last line of a book of some bids with some CHECK.
func endLine(bids, check int) string {
	return lines.Of("end", strconv.Itoa(bids), decimal.Padded(check, checkDigits))
}

func printBook(bids []api.FleetBid, sale set.Set) string {
	all := lists.Each(bids, rowOf)
	for number := range sale.All() {
		all[number][soldPlace] = 1
	}
	return books().Print(all)
}

// rowOf returns the numbers of a bid that is not sold.
func rowOf(b api.FleetBid) []int {
	return []int{fleetPlace: b.Fleet, zonePlace: b.Zone, fromPlace: b.From, daysPlace: b.Days, pricePlace: b.Price, soldPlace: 0}
}

// readBook returns the bids and the sale of a text, which may be too many or not as defined, and whether it is of the form of a book.
func readBook(text string) (bids []api.FleetBid, sale set.Set, ok bool) {
	all, ok := books().Read(text)
	if !ok {
		return nil, 0, false
	}
	for number, row := range all {
		if !bounds.In(row[soldPlace], 0, 1) {
			return nil, 0, false
		}
		sale |= set.Set(row[soldPlace]) << number
	}
	return lists.Each(all, bidOf), sale, true
}

func bidOf(row []int) api.FleetBid {
	return api.FleetBid{Fleet: row[fleetPlace], Zone: row[zonePlace], From: row[fromPlace], Days: row[daysPlace], Price: row[pricePlace]}
}
