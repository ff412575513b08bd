package cell

import (
	"strings"

	"motu/amount"
	"motu/api"
	"motu/bounds"
)

func isSystem(c api.CellSystem) bool {
	return isEnergy(c.Sunny) && bounds.In(c.Cloudy, 0, c.Sunny) && isEnergy(c.Size) &&
		bounds.In(c.Fade, 0, amount.Whole) && bounds.In(c.Start, 0, amount.Whole) && areLoads(c.Loads) &&
		bounds.In(c.Days, 1, api.CellDays) && bounds.In(c.Window, 1, c.Days) && bounds.In(c.Most, 0, c.Window) &&
		bounds.In(c.Panel, 0, api.CellCost) && bounds.In(c.Battery, 0, api.CellCost)
}

func isEnergy(n int) bool { return bounds.In(n, 0, api.CellEnergy) }

func areLoads(loads []api.CellLoad) bool {
	if !bounds.In(len(loads), 1, api.CellLoads) {
		return false
	}
	for _, load := range loads {
		if !isEnergy(load.Need) || !isEnergy(load.Keep) {
			return false
		}
	}
	return true
}

func areNumbers(panels, batteries int) bool {
	return bounds.In(panels, 0, api.CellPanels) && bounds.In(batteries, 0, api.CellBatteries)
}

// areLoadsOf reports whether bits are a set of loads of a system.
func areLoadsOf(c api.CellSystem, bits int) bool { return bounds.In(bits, 0, 1<<len(c.Loads)-1) }

func isWeather(c api.CellSystem, text string) bool { return areLetters(c, text, weatherLetters) }

func isSky(c api.CellSystem, text string) bool { return areLetters(c, text, skyLetters) }

// areLetters reports whether a text has just some letters, as many as there are days. All of them are single bytes.
func areLetters(c api.CellSystem, text, letters string) bool {
	if len(text) != c.Days {
		return false
	}
	for _, letter := range text {
		if !strings.ContainsRune(letters, letter) {
			return false
		}
	}
	return true
}
