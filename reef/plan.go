package reef

import (
	"iter"
	"slices"

	"motu/api"
	"motu/lists"
)

// unplanned stands for the closed places of a season for which nothing is planned.
const unplanned = -1

// plan is the closed places of each season, as bits.
type plan [api.ReefSeasons]int

// beginning returns a plan for the first seasons only.
func (x plan) beginning(seasons int) plan {
	for season := seasons; season < len(x); season++ {
		x[season] = unplanned
	}
	return x
}

// planned is a reef with a plan.
type planned struct {
	api.Reef
	plan plan
}

func withPlan(r api.Reef, list []int) planned {
	p := planned{Reef: r}
	copy(p.plan[:], list)
	return p
}

// numbered returns a reef with the plan of a number. The first season is in the highest bits, so that counting up is lexicographic order.
func numbered(r api.Reef, number int) planned {
	p := planned{Reef: r}
	places := len(p.Places)
	for season := range p.Seasons {
		p.plan[season] = number >> (places * (p.Seasons - 1 - season)) & (1<<places - 1)
	}
	return p
}

func (p planned) list() []int { return slices.Clone(p.plan[:p.Seasons]) }

// closed yields the places that are closed in a season.
func (p planned) closed(season int) iter.Seq[int] {
	return func(yield func(int) bool) {
		for place := range p.Places {
			if p.plan[season]>>place&1 == 1 && !yield(place) {
				return
			}
		}
	}
}

func (p planned) cost() int {
	cost := 0
	for season := range p.Seasons {
		for place := range p.closed(season) {
			cost += p.Places[place].Worth
		}
	}
	return cost
}

// starts returns for each place how many fish there can be at first.
func (p planned) starts() []api.Span {
	return lists.Each(p.Places, func(x api.ReefPlace) api.Span {
		return api.Span{Low: x.Count, High: mostThere(x.Count, p.Miss)}
	})
}

// grows returns how the fish of each place can grow.
func (p planned) grows() []api.Span {
	return lists.Each(p.Places, func(x api.ReefPlace) api.Span { return x.Grow })
}

// takes returns how many fish people can want to take of each place in a season.
func (p planned) takes(season int) []api.Span {
	spans := lists.Each(p.Places, func(x api.ReefPlace) api.Span { return x.Open })
	for place := range p.closed(season) {
		spans[place] = p.Places[place].Shut
	}
	return spans
}

// limited returns the reef with a limit of what is taken of a place while it is open.
func (p planned) limited(place, most int) planned {
	p.Places = slices.Clone(p.Places)
	open := p.Places[place].Open
	p.Places[place].Open = api.Span{Low: min(open.Low, most), High: min(open.High, most)}
	return p
}
