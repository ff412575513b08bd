package cell

import (
	"motu/amount"
	"motu/api"
	"motu/set"
)

// power is what all panels give on a sunny day and on a cloudy one, and what all batteries hold.
type power struct {
	sunny  int
	cloudy int
	room   int
}

// gives returns what all panels give on a day with some letter.
func (p power) gives(letter rune) int {
	if string(letter) == cloudyDay {
		return p.cloudy
	}
	return p.sunny
}

// powered is a system with the power of some panels and batteries, of which a set of loads is switched off.
type powered struct {
	api.CellSystem
	power
	off set.Set
}

func withPower(c api.CellSystem, panels, batteries int) powered {
	return powered{CellSystem: c, power: power{sunny: panels * c.Sunny, cloudy: panels * c.Cloudy, room: batteries * c.Size}}
}

// without returns the system with a set of loads switched off.
func (p powered) without(off set.Set) powered {
	p.off = off
	return p
}

// running is a system that runs through the days of a weather.
type running struct {
	powered
	letter  rune // of the day
	battery int  // the energy in all batteries
	carried set.Set
	ledger  api.CellLedger
}

// play returns the end of each day of a weather, and the ledger.
func (p powered) play(weather string) ([]api.CellDay, api.CellLedger) {
	r := running{powered: p, battery: amount.Part(p.room, p.Start)}
	r.ledger.Start = r.battery
	steps := [3]func(){r.shine, r.carry, r.fade}
	ends := make([]api.CellDay, len(weather))
	for day, letter := range weather {
		r.letter = letter
		for _, step := range steps {
			step()
		}
		ends[day] = api.CellDay{Battery: r.battery, Carried: int(r.carried)}
	}
	r.ledger.Left = r.battery
	return ends, r.ledger
}

func (r *running) shine() {
	gives := r.gives(r.letter)
	lost := max(0, amount.Sum(r.battery, gives)-r.room)
	r.battery += gives - lost
	r.ledger.Sun += gives
	r.ledger.Lost += lost
}

func (r *running) carry() {
	r.carried = 0
	for number, load := range r.Loads {
		if r.off.Has(number) || r.battery < amount.Sum(load.Need, load.Keep) {
			continue
		}
		r.battery -= load.Need
		r.ledger.Used += load.Need
		r.carried = r.carried.With(number)
	}
}

func (r *running) fade() {
	faded := amount.Part(r.battery, r.Fade)
	r.battery -= faded
	r.ledger.Faded += faded
}
