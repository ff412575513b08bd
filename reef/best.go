package reef

import (
	"motu/api"
	"motu/bounds"
	"motu/first"
)

// looked is a reef that is looked at, with the fewest fish that were found to be left after plans and their beginnings.
type looked struct {
	api.Reef
	found map[plan]shoals
}

func lookAt(r api.Reef) looked {
	return looked{Reef: r, found: map[plan]shoals{}}
}

// left returns the fewest fish that can be left after the first seasons of a plan. Many plans begin alike, so that mostly only the last one of these seasons is followed.
func (l looked) left(x plan, seasons int) shoals {
	p := planned{Reef: l.Reef, plan: x}
	if seasons == 0 {
		return p.first(bounds.Low)
	}
	key := x.beginning(seasons)
	fish, ok := l.found[key]
	if !ok {
		fish = p.fewest(l.left(x, seasons-1), seasons-1)
		l.found[key] = fish
	}
	return fish
}

// shortage is a place that can be short, and by how many fish; the search for one panics with it.
type shortage struct {
	place int
	by    int
}

// short returns the first place that can be short with a plan, and whether there is one.
func (l looked) short(x plan) (shortage, bool) {
	return firstShort(l.Places, l.left(x, l.Seasons))
}

func firstShort(places []api.ReefPlace, left shoals) (s shortage, found bool) {
	defer func() {
		s, found = recover().(shortage)
	}()
	for place, x := range places {
		suffice(place, x.Goal-left[place])
	}
	return shortage{}, false
}

// suffice gives up if fish are lacking in a place.
func suffice(place, lacking int) {
	if lacking > 0 {
		panic(shortage{place: place, by: lacking})
	}
}

// best returns the reef with the best plan, and whether there is one. Of plans that cost the same it takes the first one.
func (l looked) best() (planned, bool) {
	plans := 1 << (len(l.Places) * l.Seasons)
	// The last plan closes all places in all seasons; no other one leaves more fish anywhere.
	if _, is := l.short(numbered(l.Reef, plans-1).plan); is {
		return planned{}, false
	}
	best, found := planned{}, false
	for number := range plans {
		p := numbered(l.Reef, number)
		if found && p.cost() >= best.cost() {
			continue
		}
		if _, is := l.short(p.plan); !is {
			best, found = p, true
		}
	}
	return best, found
}

// tooMany returns the least limit of what is taken of a place with which some place can be short. It is one more than the quota; 0 if there is no quota.
func (p planned) tooMany(place int) int {
	return first.Number(api.ReefFish, func(limit int) bool {
		_, is := lookAt(p.limited(place, limit).Reef).short(p.plan)
		return is
	})
}
