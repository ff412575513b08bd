package bane

import (
	"motu/amount"
	"motu/api"
	"motu/bounds"
	"motu/set"
)

func isWeb(w api.BaneWeb) bool {
	if !bounds.In(len(w.Fish), 1, api.BaneFishes) || !bounds.In(w.Limit, 0, api.BaneLevel) {
		return false
	}
	for kind, fish := range w.Fish {
		if !isFish(fish) || !areBites(fish.Bites, kind) {
			return false
		}
	}
	return true
}

// isFish reports whether a kind of fish is as defined, but for what it eats.
func isFish(fish api.BaneFish) bool {
	return bounds.IsSpan(fish.Base, api.BaneLevel) && bounds.In(fish.Pass, 0, api.BaneLevel) && bounds.In(fish.Cost, 0, api.BaneCost)
}

// areBites reports whether bites of a kind are as defined: each is of another kind, with a lesser number.
func areBites(bites []api.BaneBite, kind int) bool {
	if len(bites) > api.BaneBites {
		return false
	}
	var eaten set.Set
	for _, bite := range bites {
		if !bounds.In(bite.Prey, 0, kind-1) || eaten.Has(bite.Prey) || !bounds.IsSpan(bite.Share, amount.Whole) {
			return false
		}
		eaten = eaten.With(bite.Prey)
	}
	return true
}

func isKind(w api.BaneWeb, kind int) bool { return bounds.In(kind, 0, len(w.Fish)-1) }

func areKinds(w api.BaneWeb, list []int) bool { return bounds.AreNumbers(list, len(w.Fish)) }

func isTruth(w api.BaneWeb, t api.BaneTruth) bool {
	if len(t.Bases) != len(w.Fish) || len(t.Shares) != len(w.Fish) {
		return false
	}
	for kind, fish := range w.Fish {
		if !bounds.InSpan(t.Bases[kind], fish.Base) || !areShares(t.Shares[kind], fish.Bites) {
			return false
		}
	}
	return true
}

// areShares reports whether there is a share for each bite, and lies where it may.
func areShares(shares []int, bites []api.BaneBite) bool {
	if len(shares) != len(bites) {
		return false
	}
	for k, bite := range bites {
		if !bounds.InSpan(shares[k], bite.Share) {
			return false
		}
	}
	return true
}

func isSea(s api.BaneSea) bool {
	if !bounds.In(s.Islets, 1, api.BaneIslets) || !bounds.In(s.Wait, 0, api.BaneWait) || len(s.Trips) > api.BaneTrips {
		return false
	}
	for _, trip := range s.Trips {
		if !isTrip(s, trip) {
			return false
		}
	}
	return bounds.AreNumbers(s.Infested, s.Islets) && bounds.AreNumbers(s.Clean, s.Islets)
}

func isTrip(s api.BaneSea, trip api.BaneTrip) bool {
	return bounds.In(trip.Day, 0, api.BaneDays) && bounds.In(trip.Cost, 0, api.BaneCost) &&
		isIslet(s, trip.From) && isIslet(s, trip.To) && trip.From != trip.To
}

func isIslet(s api.BaneSea, islet int) bool { return bounds.In(islet, 0, s.Islets-1) }

func areTrips(s api.BaneSea, list []int) bool { return bounds.AreNumbers(list, len(s.Trips)) }
