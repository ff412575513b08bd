package lens

import "motu/api"

// perMille is the greatest share of a whole that soaks in or leaks away.
const perMille = 1000

func isIn(n, low, high int) bool { return low <= n && n <= high }

func isInSpan(n int, s api.Span) bool { return isIn(n, s.Low, s.High) }

func isSpan(s api.Span, most int) bool {
	return 0 <= s.Low && s.Low <= s.High && s.High <= most
}

func areTanks(tanks int) bool { return isIn(tanks, 0, api.LensTanks) }

func isIslet(i api.LensIslet) bool {
	return isIn(i.Cap, 1, api.LensWater) && isSpan(i.Start, i.Cap) &&
		isIn(i.Roof, 0, api.LensRoof) && isIn(i.Sand, 0, api.LensSand) &&
		isSpan(i.Soak, perMille) && isSpan(i.Leak, perMille) &&
		isIn(i.Pump, 0, api.LensWater) && isIn(i.Size, 0, api.LensWater) && isIn(i.Keep, 0, i.Cap) &&
		areWells(i.Wells, i.Cap) && areMonths(i.Months) &&
		isIn(i.Most, 0, len(i.Months)) && isIn(i.Row, 0, len(i.Months))
}

func areWells(wells []int, most int) bool {
	if len(wells) > api.LensWells {
		return false
	}
	for _, w := range wells {
		if !isIn(w, 0, most) {
			return false
		}
	}
	return true
}

func areMonths(months []api.LensMonth) bool {
	if !isIn(len(months), 1, api.LensMonths) {
		return false
	}
	for _, m := range months {
		if !isMonth(m) {
			return false
		}
	}
	return true
}

func isMonth(m api.LensMonth) bool {
	return isSpan(m.Wet, api.LensRain) && isSpan(m.Dry, api.LensRain) && isSpan(m.Need, api.LensWater) &&
		m.Dry.Low <= m.Wet.Low && m.Dry.High <= m.Wet.High
}

func isTruth(i api.LensIslet, t api.LensTruth) bool {
	if !isInSpan(t.Start, i.Start) || !isInSpan(t.Soak, i.Soak) || !isInSpan(t.Leak, i.Leak) {
		return false
	}
	months := len(i.Months)
	if len(t.Dry) != months || len(t.Rains) != months || len(t.Needs) != months || !isDrought(i, t.Dry) {
		return false
	}
	for m, month := range i.Months {
		if !isInSpan(t.Rains[m], rainOf(month, t.Dry[m])) || !isInSpan(t.Needs[m], month.Need) {
			return false
		}
	}
	return true
}

func rainOf(m api.LensMonth, dry bool) api.Span {
	if dry {
		return m.Dry
	}
	return m.Wet
}
