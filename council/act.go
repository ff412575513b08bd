package council

import (
	"motu/amount"
	"motu/api"
	"motu/bounds"
	"motu/fleet"
	"motu/land"
	"motu/lists"
	"motu/set"
)

// act is something that a council does. What it tells of itself is asked in this order, and only as long as nothing is against it.
type act interface {
	// isDefined reports whether all that the act is about is as defined.
	isDefined(c *Council) bool
	// isReady reports whether the council is in a state that allows the act.
	isReady(c *Council) bool
	// isRight reports whether no rule forbids the act, but for what it costs.
	isRight(c *Council) bool
	cost(c *Council) int
	do(c *Council)
}

// perform does an act, if all holds that must hold before.
func (c *Council) perform(a act) api.Errno {
	if c.isNone() {
		return api.ErrNil
	}
	rules := [...]struct {
		holds     func() bool
		otherwise api.Errno
	}{
		{func() bool { return a.isDefined(c) }, api.ErrArg},
		{func() bool { return len(c.done) < api.CouncilActs && a.isReady(c) }, api.ErrState},
		{func() bool { return a.isRight(c) && a.cost(c) <= c.CouncilAtoll.Money }, api.ErrRule},
	}
	for _, rule := range rules {
		if !rule.holds() {
			return rule.otherwise
		}
	}
	c.CouncilAtoll.Money -= a.cost(c)
	a.do(c)
	c.done = copyOf(c.done, a)
	return api.OK
}

// usual is what most acts have in common.
type usual struct{}

func (usual) isDefined(*Council) bool { return true }
func (usual) isRight(*Council) bool   { return true }
func (usual) cost(*Council) int       { return 0 }

type tankAct struct{ usual }

func (tankAct) isReady(c *Council) bool { return c.tanks < api.LensTanks }
func (tankAct) cost(c *Council) int     { return c.CouncilAtoll.Tank }
func (tankAct) do(c *Council)           { c.tanks++ }

type tellAct struct {
	usual
	api.LandMemory
}

// told returns a book with the memory after some others.
func (a tellAct) told(b api.LandBook, others []api.LandMemory) api.LandBook {
	b.Memories = copyOf(others, a.LandMemory)
	return b
}

// isDefined looks at the memory alone, as there can be too many with the others, which is another error.
func (a tellAct) isDefined(c *Council) bool { return land.Check(a.told(c.Book, nil)) == api.OK }
func (a tellAct) isReady(c *Council) bool   { return len(c.Book.Memories) < api.LandMemories }
func (a tellAct) do(c *Council)             { c.Book = a.told(c.Book, c.Book.Memories) }

func (a tellAct) isRight(c *Council) bool {
	_, e := land.Witness(a.told(c.Book, c.Book.Memories))
	return e == api.OK
}

// closure is a place of the reef in a season.
type closure struct {
	usual
	place  int
	season int
}

func (a closure) isDefined(c *Council) bool {
	return bounds.In(a.place, 0, len(c.Reef.Places)-1) && bounds.In(a.season, 0, c.Reef.Seasons-1)
}

func (a closure) is(c *Council) bool { return c.closed[a.season].Has(a.place) }

type closeAct struct{ closure }

func (a closeAct) isReady(c *Council) bool { return !a.is(c) }
func (a closeAct) cost(c *Council) int     { return c.Reef.Places[a.place].Worth }
func (a closeAct) do(c *Council)           { c.closed[a.season] |= set.Of(a.place) }

type reopenAct struct{ closure }

func (a reopenAct) isReady(c *Council) bool { return a.is(c) }
func (a reopenAct) do(c *Council)           { c.closed[a.season] &^= set.Of(a.place) }

// guard is that of a trip.
type guard struct {
	usual
	trip int
}

func (a guard) isDefined(c *Council) bool { return bounds.In(a.trip, 0, len(c.Sea.Trips)-1) }
func (a guard) is(c *Council) bool        { return c.guarded.Has(a.trip) }

type guardAct struct{ guard }

func (a guardAct) isReady(c *Council) bool { return !a.is(c) }
func (a guardAct) cost(c *Council) int     { return c.Sea.Trips[a.trip].Cost }
func (a guardAct) do(c *Council)           { c.guarded |= set.Of(a.trip) }

type freeAct struct{ guard }

func (a freeAct) isReady(c *Council) bool { return a.is(c) }
func (a freeAct) do(c *Council)           { c.guarded &^= set.Of(a.trip) }

// freight is a lot on each ship.
type freight struct {
	usual
	lot int
}

func (a freight) isDefined(c *Council) bool { return bounds.In(a.lot, 0, len(c.Store.Lots)-1) }
func (a freight) is(c *Council) bool        { return c.loaded.Has(a.lot) }

type loadAct struct{ freight }

func (a loadAct) isReady(c *Council) bool { return !a.is(c) }
func (a loadAct) cost(c *Council) int     { return c.Store.Lots[a.lot].Cost }
func (a loadAct) do(c *Council)           { c.loaded |= set.Of(a.lot) }

func (a loadAct) isRight(c *Council) bool {
	lots := set.Pick(c.loaded.With(a.lot), c.Store.Lots)
	weights := lists.Each(lots, func(lot api.ShipLot) int { return lot.Weight })
	return amount.Sum(weights...) <= c.Store.Hold
}

type unloadAct struct{ freight }

func (a unloadAct) isReady(c *Council) bool { return a.is(c) }
func (a unloadAct) do(c *Council)           { c.loaded &^= set.Of(a.lot) }

type panelAct struct{ usual }

func (panelAct) isReady(c *Council) bool { return c.panels < api.CellPanels }
func (panelAct) cost(c *Council) int     { return c.System.Panel }
func (panelAct) do(c *Council)           { c.panels++ }

type batteryAct struct{ usual }

func (batteryAct) isReady(c *Council) bool { return c.batteries < api.CellBatteries }
func (batteryAct) cost(c *Council) int     { return c.System.Battery }
func (batteryAct) do(c *Council)           { c.batteries++ }

type bidAct struct {
	usual
	api.FleetBid
}

func (a bidAct) isDefined(c *Council) bool {
	_, _, e := fleet.Sell(c.Fishing, []api.FleetBid{a.FleetBid})
	return e == api.OK
}

func (a bidAct) isReady(c *Council) bool { return len(c.bids) < api.FleetBids && !c.isAwarded }
func (a bidAct) do(c *Council)           { c.bids = copyOf(c.bids, a.FleetBid) }

type awardAct struct{ usual }

func (awardAct) isReady(c *Council) bool { return !c.isAwarded }

func (awardAct) do(c *Council) {
	_, revenue, _ := c.Sale()
	c.CouncilAtoll.Money += revenue
	c.isAwarded = true
}

type reportAct struct {
	usual
	api.FleetReport
}

// isDefined looks at the report alone, which never contradicts itself.
func (a reportAct) isDefined(c *Council) bool {
	_, e := fleet.Cheat(c.Fishing, []api.FleetReport{a.FleetReport})
	return e == api.ErrNone
}

func (a reportAct) isReady(c *Council) bool { return len(c.reports) < api.FleetReports }
func (a reportAct) do(c *Council)           { c.reports = copyOf(c.reports, a.FleetReport) }
