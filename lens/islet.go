package lens

import (
	"motu/api"
	"motu/bounds"
)

// perMille is the greatest share of a whole that soaks in or leaks away.
const perMille = 1000

func areTanks(tanks int) bool { return bounds.In(tanks, 0, api.LensTanks) }

func isIslet(i api.LensIslet) bool {
	return bounds.In(i.Cap, 1, api.LensWater) && bounds.IsSpan(i.Start, i.Cap) &&
		bounds.In(i.Roof, 0, api.LensRoof) && bounds.In(i.Sand, 0, api.LensSand) &&
		bounds.IsSpan(i.Soak, perMille) && bounds.IsSpan(i.Leak, perMille) &&
		bounds.In(i.Pump, 0, api.LensWater) && bounds.In(i.Size, 0, api.LensWater) && bounds.In(i.Keep, 0, i.Cap) &&
		areWells(i.Wells, i.Cap) && areMonths(i.Months) &&
		bounds.In(i.Most, 0, len(i.Months)) && bounds.In(i.Row, 0, len(i.Months))
}

func areWells(wells []int, most int) bool {
	return len(wells) <= api.LensWells && bounds.AllIn(wells, 0, most)
}

func areMonths(months []api.LensMonth) bool {
	if !bounds.In(len(months), 1, api.LensMonths) {
		return false
	}
	for _, m := range months {
		if !isMonth(m) {
			return false
		}
	}
	return true
}

func isMonth(m api.LensMonth) bool {
	return bounds.IsSpan(m.Wet, api.LensRain) && bounds.IsSpan(m.Dry, api.LensRain) && bounds.IsSpan(m.Need, api.LensWater) &&
		m.Dry.Low <= m.Wet.Low && m.Dry.High <= m.Wet.High
}

func isTruth(i api.LensIslet, t api.LensTruth) bool {
	if !bounds.InSpan(t.Start, i.Start) || !bounds.InSpan(t.Soak, i.Soak) || !bounds.InSpan(t.Leak, i.Leak) {
		return false
	}
	months := len(i.Months)
	if len(t.Dry) != months || len(t.Rains) != months || len(t.Needs) != months || !isDrought(i, t.Dry) {
		return false
	}
	for m, month := range i.Months {
		if !bounds.InSpan(t.Rains[m], rainOf(month, t.Dry[m])) || !bounds.InSpan(t.Needs[m], month.Need) {
			return false
		}
	}
	return true
}

func rainOf(m api.LensMonth, dry bool) api.Span {
	if dry {
		return m.Dry
	}
	return m.Wet
}
