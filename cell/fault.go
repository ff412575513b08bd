package cell

import (
	"motu/api"
	"motu/set"
)

// fault returns the first fault, and whether there is one. It follows all allowed weathers, as a sunny day can let loads take what a later day needs.
func (p powered) fault() (api.CellFault, bool) {
	fault, found := api.CellFault{}, false
search:
	for weather := range weathers(p.CellSystem, unknownSky(p.CellSystem)) {
		ends, _ := p.play(weather)
		for day, end := range ends {
			if load, is := firstDown(p.Loads, end); is {
				fault, found = api.CellFault{Sky: weather, Day: day, Load: load}, true
				break search
			}
		}
	}
	return fault, found
}

// suffices reports whether no allowed weather lets a load down.
func (p powered) suffices() bool {
	_, found := p.fault()
	return !found
}

// down is a load that is let down; the look for one panics with it.
type down struct{ load int }

// firstDown returns the first load that is let down on a day, and whether there is one.
func firstDown(loads []api.CellLoad, end api.CellDay) (load int, found bool) {
	defer func() {
		var d down
		d, found = recover().(down)
		load = d.load
	}()
	for number, x := range loads {
		if x.Must {
			mustCarry(number, set.Set(end.Carried))
		}
	}
	return 0, false
}

// mustCarry gives up if a load is not one of those that were carried.
func mustCarry(load int, carried set.Set) {
	if !carried.Has(load) {
		panic(down{load: load})
	}
}
