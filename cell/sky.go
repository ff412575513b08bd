package cell

import (
	"iter"
	"strings"

	"motu/api"
)

// Letters of weathers and skies. Those of weathers are in the order in which weathers are told.
const (
	sunnyDay       = "s"
	cloudyDay      = "c"
	unknownDay     = "?"
	weatherLetters = sunnyDay + cloudyDay
	skyLetters     = weatherLetters + unknownDay
)

// unknownSky returns the sky with which all weathers agree.
func unknownSky(c api.CellSystem) string { return strings.Repeat(unknownDay, c.Days) }

// weathers yields the allowed weathers that agree with a sky, in their order.
func weathers(c api.CellSystem, sky string) iter.Seq[string] {
	return func(yield func(string) bool) {
		var goOn func(beginning, rest string) bool
		goOn = func(beginning, rest string) bool {
			if rest == "" {
				return yield(beginning)
			}
			for _, letter := range possible(rest[:1]) {
				longer := beginning + string(letter)
				if canBegin(c, longer) && !goOn(longer, rest[1:]) {
					return false
				}
			}
			return true
		}
		goOn("", sky)
	}
}

// possible returns the letters of a weather that agree with a letter of a sky.
func possible(letter string) string {
	if letter == unknownDay {
		return weatherLetters
	}
	return letter
}

// canBegin reports whether a weather that begins so is not too cloudy in its last days up to there; its earlier days were asked for before. The first days can be fewer than a window, but then they are part of one.
func canBegin(c api.CellSystem, beginning string) bool {
	last := beginning[max(0, len(beginning)-c.Window):]
	return strings.Count(last, cloudyDay) <= c.Most
}
