package reef

import (
	"motu/api"
	"motu/bounds"
	"motu/first"
	"motu/lists"
)

// first returns the fish at first, of one end of all spans.
func (p planned) first(end func(api.Span) int) shoals {
	var fish shoals
	copy(fish[:], lists.Each(p.starts(), end))
	return fish
}

// after returns what is left of some fish after a season in which fish grow by one end of all spans, and people take the other.
func (p planned) after(fish shoals, season int, grow, take func(api.Span) int) shoals {
	f := followed{Reef: p.Reef, fish: fish}
	f.pass(lists.Each(p.grows(), grow), lists.Each(p.takes(season), take))
	return f.fish
}

// fewest returns the fewest fish that can be left if there are at least so many before a season. More fish never make fewer later, in any place, so that all truths lie between these and the most fish.
func (p planned) fewest(fish shoals, season int) shoals {
	return p.after(fish, season, bounds.Low, bounds.High)
}

// most returns the most fish that can be left if there are at most so many before a season.
func (p planned) most(fish shoals, season int) shoals {
	return p.after(fish, season, bounds.High, bounds.Low)
}

func (p planned) stocks() [][]api.Span {
	fewest, most := p.first(bounds.Low), p.first(bounds.High)
	all := make([][]api.Span, p.Seasons)
	for season := range p.Seasons {
		fewest, most = p.fewest(fewest, season), p.most(most, season)
		for place := range p.Places {
			all[season] = append(all[season], api.Span{Low: fewest[place], High: most[place]})
		}
	}
	return all
}

func (p planned) counts() [][]api.Span {
	all := p.stocks()
	for _, places := range all {
		for place, stock := range places {
			// The greatest count is that of the most fish, as divers can count all.
			places[place].Low = leastCount(stock.Low, p.Miss)
		}
	}
	return all
}

// leastCount returns the least number that divers can count where there are some fish.
func leastCount(fish, miss int) int {
	return first.Number(fish, func(count int) bool { return mostThere(count, miss) >= fish })
}
