package council

import (
	"slices"

	"motu/api"
	"motu/bane"
	"motu/bounds"
	"motu/cell"
	"motu/fleet"
	"motu/land"
	"motu/lens"
	"motu/lists"
	"motu/reef"
	"motu/ship"
)

func isAtoll(a api.CouncilAtoll) bool {
	return lens.Check(a.Islet) == api.OK && bounds.In(a.Tank, 0, api.CouncilCost) && land.Check(a.Book) == api.OK &&
		reef.Check(a.Reef) == api.OK && bane.CheckSea(a.Sea) == api.OK && ship.CheckStore(a.Store) == api.OK &&
		cell.Check(a.System) == api.OK && fleet.Check(a.Fishing) == api.OK && bounds.In(a.Money, 0, api.CouncilMoney)
}

// copyOf returns a list with more at its end, which shares no memory with the list.
func copyOf[T any](list []T, more ...T) []T { return slices.Concat(list, more) }

// copyAtoll returns an atoll that shares no memory with another one.
func copyAtoll(a api.CouncilAtoll) api.CouncilAtoll {
	a.Islet.Wells, a.Islet.Months = copyOf(a.Islet.Wells), copyOf(a.Islet.Months)
	a.Book.People, a.Book.Events, a.Book.Memories = copyOf(a.Book.People), copyOf(a.Book.Events), copyOf(a.Book.Memories)
	a.Reef.Places = copyOf(a.Reef.Places)
	a.Sea.Infested, a.Sea.Clean, a.Sea.Trips = copyOf(a.Sea.Infested), copyOf(a.Sea.Clean), copyOf(a.Sea.Trips)
	a.Store.Stock, a.Store.Use, a.Store.Lots = copyOf(a.Store.Stock), copyOf(a.Store.Use), lists.Each(a.Store.Lots, copyLot)
	a.System.Loads = copyOf(a.System.Loads)
	a.Fishing.Roads, a.Fishing.Zones, a.Fishing.Berths = copyOf(a.Fishing.Roads), copyOf(a.Fishing.Zones), copyOf(a.Fishing.Berths)
	return a
}

func copyLot(lot api.ShipLot) api.ShipLot {
	lot.Goods = copyOf(lot.Goods)
	return lot
}
