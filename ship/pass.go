package ship

import (
	"iter"

	"motu/api"
	"motu/bounds"
	"motu/first"
)

// swollen is a pass with some swell on each day.
type swollen struct {
	api.ShipPass
	swell func(api.Span) int // how great it is on a day, of all that it can be
}

// mostSwollen returns a pass through which a ship goes only in hours in which it surely can.
func mostSwollen(p api.ShipPass) swollen { return swollen{ShipPass: p, swell: bounds.High} }

// leastSwollen returns a pass through which a ship goes in all hours in which it perhaps can.
func leastSwollen(p api.ShipPass) swollen { return swollen{ShipPass: p, swell: bounds.Low} }

// isOpen reports whether a ship can go through in a call.
func (s swollen) isOpen(c api.ShipCall) bool {
	needs := [2]func(api.ShipCall) bool{s.isLight, s.isDeep}
	for _, holds := range needs {
		if !holds(c) {
			return false
		}
	}
	return true
}

func (s swollen) isLight(c api.ShipCall) bool { return bounds.InSpan(c.Hour, s.Light) }

func (s swollen) isDeep(c api.ShipCall) bool {
	tide := s.Tides[hourOf(c)%len(s.Tides)]
	return s.Depth+tide-s.swell(s.Swell[c.Day]) >= s.Draft
}

// hourOf returns how many hours of a pass are before a call.
func hourOf(c api.ShipCall) int { return c.Day*api.ShipHours + c.Hour }

// from yields the calls from one on, in their order, whether a ship can go through or not.
func (s swollen) from(c api.ShipCall) iter.Seq[api.ShipCall] {
	return func(yield func(api.ShipCall) bool) {
		before := hourOf(c)
		for k := range len(s.Swell)*api.ShipHours - before {
			hour := before + k
			if !yield(api.ShipCall{Day: hour / api.ShipHours, Hour: hour % api.ShipHours}) {
				return
			}
		}
	}
}

// hours returns the hours of a day in which a ship can go through.
func (s swollen) hours(day int) []int {
	var open []int
	for hour := range api.ShipHours {
		if s.isOpen(api.ShipCall{Day: day, Hour: hour}) {
			open = append(open, hour)
		}
	}
	return open
}

// calls returns the first calls of some ships, and whether there are any. Which calls can come next depends on the day of the last one alone, so that each ship goes through in the first hour of its day.
func (s swollen) calls(gap api.Span, many int) ([]api.ShipCall, bool) {
	return first.List(many, func(calls []api.ShipCall) iter.Seq[api.ShipCall] {
		last := 0
		if len(calls) > 0 {
			last = calls[len(calls)-1].Day
		}
		return s.early(api.Span{Low: last + gap.Low, High: last + gap.High})
	})
}

// early yields, of each of some days, the first call in which a ship can go through.
func (s swollen) early(days api.Span) iter.Seq[api.ShipCall] {
	return func(yield func(api.ShipCall) bool) {
		for day := days.Low; day <= days.High && isDay(s.ShipPass, day); day++ {
			open := s.hours(day)
			if len(open) > 0 && !yield(api.ShipCall{Day: day, Hour: open[0]}) {
				return
			}
		}
	}
}
