package wall

import (
	"motu/amount"
	"motu/api"
	"motu/bounds"
	"motu/lists"
)

// stormy is a shore in a class of storms.
type stormy struct {
	api.WallShore
	api.WallStorm
}

func inStorm(s api.WallShore, c api.WallStorm) stormy {
	return stormy{WallShore: s, WallStorm: c}
}

func (s stormy) drags() []api.Span {
	return lists.Each(s.Cells, func(c api.WallCell) api.Span { return c.Drag })
}

// truth returns what is true if one end of each span makes water higher, and the other makes it lower.
func (s stormy) truth(higher, lower func(api.Span) int) api.WallTruth {
	return api.WallTruth{
		Wind: higher(s.Wind), Fetch: higher(s.Fetch), Tide: higher(s.Tide),
		Loss: lower(s.Loss), Drags: lists.Each(s.drags(), lower),
	}
}

func (s stormy) mildest() api.WallTruth { return s.truth(bounds.Low, bounds.High) }

func (s stormy) worst() api.WallTruth { return s.truth(bounds.High, bounds.Low) }

// ends returns both ends of what is true. In no other truth is water lower or higher anywhere: a wave that is higher by 1 loses at most 1 more in a step of the reef, and water that comes higher to a cell neither stops earlier nor goes on lower.
func (s stormy) ends() [2]func() api.WallTruth {
	return [2]func() api.WallTruth{s.mildest, s.worst}
}

// level returns the level at the shore in truth.
func (s stormy) level(t api.WallTruth) int {
	wave := amount.Part(t.Fetch, t.Wind)
	for range s.Reef {
		wave -= amount.Part(wave, t.Loss)
	}
	return amount.Sum(t.Tide, wave)
}

// levels returns between which bounds the level at the shore lies.
func (s stormy) levels() api.Span {
	span := bounds.None()
	for _, end := range s.ends() {
		span = bounds.With(span, s.level(end()))
	}
	return span
}

// houses returns how many cells have a house.
func (s stormy) houses() int {
	houses := 0
	for _, c := range s.Cells {
		if c.Floor != noHouse {
			houses++
		}
	}
	return houses
}

// isSpared reports whether a cell has a house that stays dry in water of some depth.
func isSpared(c api.WallCell, depth int) bool { return c.Floor != noHouse && depth <= c.Floor }
