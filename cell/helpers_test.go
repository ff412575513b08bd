package cell_test

import (
	"math/rand"
	"slices"
	"strings"
	"testing"

	"motu/api"
	"motu/cell"
)

func span(low, high int) api.Span { return api.Span{Low: low, High: high} }

func exactly(n int) api.Span { return span(n, n) }

// chapterSystem returns the system c of the chapter's examples.
func chapterSystem() api.CellSystem {
	return api.CellSystem{
		Sunny: 100, Cloudy: 20, Size: 200, Fade: 10, Start: 1000, Loads: []api.CellLoad{{Need: 120, Must: true}, {Need: 60, Keep: 100}},
		Days: 4, Window: 3, Most: 2, Panel: 50, Battery: 80,
	}
}

func cloneSystem(c api.CellSystem) api.CellSystem {
	c.Loads = slices.Clone(c.Loads)
	return c
}

func sameSystem(a, b api.CellSystem) bool {
	return a.Sunny == b.Sunny && a.Cloudy == b.Cloudy && a.Size == b.Size && a.Fade == b.Fade && a.Start == b.Start && slices.Equal(a.Loads, b.Loads) &&
		a.Days == b.Days && a.Window == b.Window && a.Most == b.Most && a.Panel == b.Panel && a.Battery == b.Battery
}

func sameSeen(a, b api.CellSeen) bool {
	return a.Battery == b.Battery && slices.Equal(a.Loads, b.Loads)
}

// isOne reports whether a load is one of some bits.
func isOne(bits, load int) bool {
	for range load {
		bits /= 2
	}
	return bits%2 == 1
}

// plainPlay is the section 'Days', written down a second time, panel by panel.
func plainPlay(c api.CellSystem, panels, batteries, off int, weather string) ([]api.CellDay, api.CellLedger) {
	there := batteries * c.Size * c.Start / 1000
	x := api.CellLedger{Start: there}
	var ends []api.CellDay
	for k := 0; k < len(weather); k++ {
		for range panels {
			sun := map[byte]int{'s': c.Sunny, 'c': c.Cloudy}[weather[k]]
			x.Sun += sun
			there += sun
		}
		if there > batteries*c.Size {
			x.Lost += there - batteries*c.Size
			there = batteries * c.Size
		}
		end := api.CellDay{}
		bit := 1
		for load, l := range c.Loads {
			if !isOne(off, load) && there >= l.Need+l.Keep {
				there -= l.Need
				x.Used += l.Need
				end.Carried += bit
			}
			bit *= 2
		}
		lost := there * c.Fade / 1000
		x.Faded += lost
		there -= lost
		end.Battery = there
		ends = append(ends, end)
	}
	x.Left = there
	return ends, x
}

// plainIsAllowed asks each window of a weather by itself.
func plainIsAllowed(c api.CellSystem, weather string) bool {
	for from := 0; from+c.Window <= c.Days; from++ {
		clouds := 0
		for k := range c.Window {
			if weather[from+k] == 'c' {
				clouds++
			}
		}
		if clouds > c.Most {
			return false
		}
	}
	return true
}

// plainTexts returns all weathers of some days, in the order of texts with s before c.
func plainTexts(days int) []string {
	all := []string{""}
	for range days {
		var longer []string
		for _, text := range all {
			longer = append(longer, text+"s", text+"c")
		}
		all = longer
	}
	return all
}

// plainWeathers returns all allowed weathers that agree with a sky, in their order.
func plainWeathers(c api.CellSystem, sky string) []string {
	var all []string
	for _, weather := range plainTexts(c.Days) {
		agrees := true
		for k := range weather {
			agrees = agrees && (sky[k] == '?' || sky[k] == weather[k])
		}
		if agrees && plainIsAllowed(c, weather) {
			all = append(all, weather)
		}
	}
	return all
}

func anySky(c api.CellSystem) string { return strings.Repeat("?", c.Days) }

// plainLetsDown returns the first day on which loads are let down, and the first of these; the load is -1 if there is none.
func plainLetsDown(c api.CellSystem, ends []api.CellDay) (day, load int) {
	for day, end := range ends {
		for load, l := range c.Loads {
			if l.Must && !isOne(end.Carried, load) {
				return day, load
			}
		}
	}
	return 0, -1
}

// plainFault returns the first fault of all weathers, and whether there is one.
func plainFault(c api.CellSystem, panels, batteries, off int) (api.CellFault, bool) {
	for _, weather := range plainWeathers(c, anySky(c)) {
		ends, _ := plainPlay(c, panels, batteries, off, weather)
		if day, load := plainLetsDown(c, ends); load >= 0 {
			return api.CellFault{Sky: weather, Day: day, Load: load}, true
		}
	}
	return api.CellFault{}, false
}

// randomSystem returns a system with which loads are often let down, and often not.
func randomSystem(r *rand.Rand, days, loads int) api.CellSystem {
	c := api.CellSystem{Sunny: r.Intn(13), Size: r.Intn(20), Fade: r.Intn(2) * r.Intn(300), Start: r.Intn(1001), Days: days, Panel: r.Intn(4), Battery: r.Intn(4)}
	c.Cloudy = r.Intn(c.Sunny + 1)
	c.Window = 1 + r.Intn(days)
	c.Most = r.Intn(c.Window + 1)
	for range loads {
		c.Loads = append(c.Loads, api.CellLoad{Need: r.Intn(12), Keep: r.Intn(2) * r.Intn(20), Must: r.Intn(3) == 0})
	}
	return c
}

// dimSystem returns a system in which the first load must be carried, mostly is through sunny days, and mostly is not when too many are cloudy.
func dimSystem(r *rand.Rand, days int) api.CellSystem {
	c := randomSystem(r, days, 1+r.Intn(3))
	c.Sunny, c.Cloudy, c.Size, c.Start = 8+r.Intn(8), r.Intn(5), 4+r.Intn(20), 500+r.Intn(501)
	for k := range c.Loads {
		c.Loads[k].Must = k == 0
	}
	c.Loads[0].Need, c.Loads[0].Keep = 3+r.Intn(9), 0
	return c
}

func anySystem(r *rand.Rand) api.CellSystem {
	return randomSystem(r, 1+r.Intn(7), 1+r.Intn(api.CellLoads))
}

// randomNumbers returns numbers of panels and batteries, which are often small.
func randomNumbers(r *rand.Rand) (panels, batteries int) {
	return r.Intn(1 + r.Intn(api.CellPanels+1)), r.Intn(1 + r.Intn(api.CellBatteries+1))
}

func randomText(r *rand.Rand, letters string, days int) string {
	var b strings.Builder
	for range days {
		b.WriteByte(letters[r.Intn(len(letters))])
	}
	return b.String()
}

func play(t *testing.T, c api.CellSystem, panels, batteries, off int, weather string) ([]api.CellDay, api.CellLedger) {
	t.Helper()
	ends, ledger, e := cell.Play(c, panels, batteries, off, weather)
	if e != api.OK || len(ends) != c.Days {
		t.Fatal(c, panels, batteries, off, weather, ends, ledger, e)
	}
	return ends, ledger
}

func known(t *testing.T, c api.CellSystem, panels, batteries int, sky string) []api.CellSeen {
	t.Helper()
	all, e := cell.Known(c, panels, batteries, sky)
	if e != api.OK || len(all) != c.Days {
		t.Fatal(c, panels, batteries, sky, all, e)
	}
	return all
}

// suffices reports whether Fault tells that no weather lets a load down.
func suffices(t *testing.T, c api.CellSystem, panels, batteries, off int) bool {
	t.Helper()
	_, e := cell.Fault(c, panels, batteries, off)
	if e != api.OK && e != api.ErrNone {
		t.Fatal(c, panels, batteries, off, e)
	}
	return e == api.ErrNone
}
