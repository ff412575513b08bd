package reef

import (
	"motu/amount"
	"motu/api"
	"motu/bounds"
)

// outside is where fish drift that leave the reef.
const outside = -1

func isReef(r api.Reef) bool {
	if !bounds.In(len(r.Places), 1, api.ReefPlaces) || !bounds.In(r.Miss, 0, api.ReefRate) || !bounds.In(r.Seasons, 1, api.ReefSeasons) {
		return false
	}
	for place, x := range r.Places {
		if !isPlace(x) || x.Into != outside && !isNumber(r, x.Into) || x.Into == place {
			return false
		}
	}
	return true
}

// isPlace reports whether a place is as defined, but for the place to which its fish drift.
func isPlace(x api.ReefPlace) bool {
	return areFish(x.Count) && areFish(x.Room) && areFish(x.Goal) && bounds.In(x.Worth, 0, api.ReefWorth) &&
		bounds.IsSpan(x.Grow, api.ReefRate) && bounds.In(x.Drift, 0, amount.Whole) &&
		bounds.IsSpan(x.Open, api.ReefFish) && bounds.IsSpan(x.Shut, api.ReefFish) &&
		x.Shut.Low <= x.Open.Low && x.Shut.High <= x.Open.High
}

func areFish(n int) bool { return bounds.In(n, 0, api.ReefFish) }

func isNumber(r api.Reef, place int) bool { return bounds.In(place, 0, len(r.Places)-1) }

func isPlan(r api.Reef, plan []int) bool {
	return len(plan) == r.Seasons && bounds.AllIn(plan, 0, 1<<len(r.Places)-1)
}

func isTruth(p planned, t api.ReefTruth) bool {
	if !bounds.InSpans(t.Starts, p.starts()) || len(t.Grows) != p.Seasons || len(t.Takes) != p.Seasons {
		return false
	}
	for season := range p.Seasons {
		if !bounds.InSpans(t.Grows[season], p.grows()) || !bounds.InSpans(t.Takes[season], p.takes(season)) {
			return false
		}
	}
	return true
}
