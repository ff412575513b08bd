package reef

import (
	"slices"

	"motu/amount"
	"motu/api"
)

// mostThere returns how many fish there are at most where divers count some.
func mostThere(count, miss int) int { return count + amount.Part(count, miss) }

// shoals is how many fish there are in each place; 0 where a reef has no place.
type shoals [api.ReefPlaces]int

// followed is a reef whose fish are followed.
type followed struct {
	api.Reef
	fish   shoals
	grows  []int // how the fish of each place grow in the season that is followed
	takes  []int // how many fish people would take of each place in this season
	ledger api.ReefLedger
}

// play returns the fish of each place after each season, and the ledger.
func play(r api.Reef, t api.ReefTruth) ([][]int, api.ReefLedger) {
	f := followed{Reef: r}
	copy(f.fish[:], t.Starts)
	f.ledger.Start = amount.Sum(f.fish[:]...)
	ends := make([][]int, f.Seasons)
	for season := range f.Seasons {
		f.pass(t.Grows[season], t.Takes[season])
		ends[season] = slices.Clone(f.fish[:len(f.Places)])
	}
	f.ledger.Left = amount.Sum(f.fish[:]...)
	return ends, f.ledger
}

// pass follows the fish through a season.
func (f *followed) pass(grows, takes []int) {
	f.grows, f.takes = grows, takes
	steps := [3]func(){f.grow, f.drift, f.take}
	for _, step := range steps {
		step()
	}
}

func (f *followed) grow() {
	for place, x := range f.Places {
		there := f.fish[place]
		grown := min(amount.Part(there, f.grows[place]), max(0, x.Room-there))
		f.fish[place] += grown
		f.ledger.Grown += grown
	}
}

func (f *followed) drift() {
	// Fish of all places leave at once: those that come to a place do not drift on in the same season.
	before := f.fish
	for place, x := range f.Places {
		away := amount.Part(before[place], x.Drift)
		f.fish[place] -= away
		if x.Into == outside {
			f.ledger.Gone += away
		} else {
			f.fish[x.Into] += away
		}
	}
}

func (f *followed) take() {
	for place := range f.Places {
		taken := min(f.takes[place], f.fish[place])
		f.fish[place] -= taken
		f.ledger.Taken += taken
	}
}
