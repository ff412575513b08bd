package cell_test

import (
	"math"
	"strings"
	"testing"

	"motu/api"
	"motu/cell"
)

type change struct {
	name   string
	change func(*api.CellSystem)
}

func most(c *api.CellSystem) {
	*c = api.CellSystem{
		Sunny: api.CellEnergy, Cloudy: api.CellEnergy, Size: api.CellEnergy, Fade: 1000, Start: 1000, Days: 4, Window: 4, Most: 4, Panel: api.CellCost, Battery: api.CellCost,
	}
	for range api.CellLoads {
		c.Loads = append(c.Loads, api.CellLoad{Need: api.CellEnergy, Keep: api.CellEnergy, Must: true})
	}
}

// goodSystems are changes that leave the chapter's system as defined, for as many days; many reach a bound.
func goodSystems() []change {
	return []change{
		{"as it is", func(c *api.CellSystem) {}},
		{"all of everything", most},
		{"nothing of anything", func(c *api.CellSystem) {
			*c = api.CellSystem{Loads: make([]api.CellLoad, 1), Days: 4, Window: 1}
		}},
		{"no sun", func(c *api.CellSystem) { c.Sunny, c.Cloudy = 0, 0 }},
		{"greatest sun", func(c *api.CellSystem) { c.Sunny = api.CellEnergy }},
		{"nothing from clouds", func(c *api.CellSystem) { c.Cloudy = 0 }},
		{"clouds as sun", func(c *api.CellSystem) { c.Cloudy = c.Sunny }},
		{"no size", func(c *api.CellSystem) { c.Size = 0 }},
		{"greatest size", func(c *api.CellSystem) { c.Size = api.CellEnergy }},
		{"nothing fades", func(c *api.CellSystem) { c.Fade = 0 }},
		{"all fades", func(c *api.CellSystem) { c.Fade = 1000 }},
		{"nothing at first", func(c *api.CellSystem) { c.Start = 0 }},
		{"one load", func(c *api.CellSystem) { c.Loads = c.Loads[:1] }},
		{"all loads", func(c *api.CellSystem) { c.Loads = make([]api.CellLoad, api.CellLoads) }},
		{"no need, no keep", func(c *api.CellSystem) { c.Loads[0] = api.CellLoad{} }},
		{"greatest need and keep", func(c *api.CellSystem) { c.Loads[1] = api.CellLoad{Need: api.CellEnergy, Keep: api.CellEnergy} }},
		{"a window of one day", func(c *api.CellSystem) { c.Window, c.Most = 1, 1 }},
		{"a window of all days", func(c *api.CellSystem) { c.Window = 4 }},
		{"no cloudy days", func(c *api.CellSystem) { c.Most = 0 }},
		{"all days cloudy", func(c *api.CellSystem) { c.Most = 3 }},
		{"no costs", func(c *api.CellSystem) { c.Panel, c.Battery = 0, 0 }},
		{"greatest costs", func(c *api.CellSystem) { c.Panel, c.Battery = api.CellCost, api.CellCost }},
	}
}

// badSystems are changes that leave the chapter's system not as defined, each in one place only.
func badSystems() []change {
	return []change{
		{"zero value", func(c *api.CellSystem) { *c = api.CellSystem{} }},
		{"sunny below", func(c *api.CellSystem) { c.Sunny, c.Cloudy = -1, -1 }},
		{"sunny above", func(c *api.CellSystem) { c.Sunny = api.CellEnergy + 1 }},
		{"cloudy below", func(c *api.CellSystem) { c.Cloudy = -1 }},
		{"cloudy above", func(c *api.CellSystem) { c.Cloudy = 101 }},
		{"size below", func(c *api.CellSystem) { c.Size = -1 }},
		{"size above", func(c *api.CellSystem) { c.Size = api.CellEnergy + 1 }},
		{"fade below", func(c *api.CellSystem) { c.Fade = -1 }},
		{"fade above", func(c *api.CellSystem) { c.Fade = 1001 }},
		{"start below", func(c *api.CellSystem) { c.Start = -1 }},
		{"start above", func(c *api.CellSystem) { c.Start = 1001 }},
		{"nil loads", func(c *api.CellSystem) { c.Loads = nil }},
		{"no loads", func(c *api.CellSystem) { c.Loads = []api.CellLoad{} }},
		{"loads", func(c *api.CellSystem) { c.Loads = make([]api.CellLoad, api.CellLoads+1) }},
		{"need below", func(c *api.CellSystem) { c.Loads[0].Need = -1 }},
		{"need above", func(c *api.CellSystem) { c.Loads[1].Need = api.CellEnergy + 1 }},
		{"keep below", func(c *api.CellSystem) { c.Loads[1].Keep = -1 }},
		{"keep above", func(c *api.CellSystem) { c.Loads[0].Keep = api.CellEnergy + 1 }},
		{"no days", func(c *api.CellSystem) { c.Days, c.Window, c.Most = 0, 0, 0 }},
		{"no days, but a window", func(c *api.CellSystem) { c.Days = 0 }},
		{"days below", func(c *api.CellSystem) { c.Days = -1 }},
		{"days above", func(c *api.CellSystem) { c.Days = api.CellDays + 1 }},
		{"no window", func(c *api.CellSystem) { c.Window, c.Most = 0, 0 }},
		{"window below", func(c *api.CellSystem) { c.Window, c.Most = -1, 0 }},
		{"window above", func(c *api.CellSystem) { c.Window = 5 }},
		{"most below", func(c *api.CellSystem) { c.Most = -1 }},
		{"most above", func(c *api.CellSystem) { c.Most = 4 }},
		{"panel below", func(c *api.CellSystem) { c.Panel = -1 }},
		{"panel above", func(c *api.CellSystem) { c.Panel = api.CellCost + 1 }},
		{"battery below", func(c *api.CellSystem) { c.Battery = -1 }},
		{"battery above", func(c *api.CellSystem) { c.Battery = api.CellCost + 1 }},
	}
}

// wantError asks for ErrArg, with zero values, of all that takes numbers of panels and batteries; Known and Off take no set of loads.
func wantError(t *testing.T, name string, c api.CellSystem, panels, batteries, off int) {
	t.Helper()
	if ends, ledger, e := cell.Play(c, panels, batteries, off, "sccs"); e != api.ErrArg || len(ends) != 0 || ledger != (api.CellLedger{}) {
		t.Errorf("%s: Play: %v %v %v", name, ends, ledger, e)
	}
	if fault, e := cell.Fault(c, panels, batteries, off); e != api.ErrArg || fault != (api.CellFault{}) {
		t.Errorf("%s: Fault: %v %v", name, fault, e)
	}
}

// wantErrorWithoutLoads asks the same of Known and Off.
func wantErrorWithoutLoads(t *testing.T, name string, c api.CellSystem, panels, batteries int) {
	t.Helper()
	if all, e := cell.Known(c, panels, batteries, "s??s"); e != api.ErrArg || len(all) != 0 {
		t.Errorf("%s: Known: %v %v", name, all, e)
	}
	if off, e := cell.Off(c, panels, batteries); e != api.ErrArg || off != 0 {
		t.Errorf("%s: Off: %v %v", name, off, e)
	}
}

// P7.1: what Check returns; no function takes a system that is not as defined.
func TestCheck(t *testing.T) {
	for _, x := range goodSystems() {
		c := chapterSystem()
		x.change(&c)
		before := cloneSystem(c)
		play(t, c, 2, 1, 0, "sccs")
		known(t, c, 2, 1, "s???")
		_, e := cell.Off(c, 2, 1)
		_, _, _, e2 := cell.Best(c)
		if cell.Check(c) != api.OK || e != api.OK && e != api.ErrNone || e2 != api.OK && e2 != api.ErrNone {
			t.Errorf("%s: %v %v", x.name, e, e2)
		}
		suffices(t, c, 2, 1, 0)
		if !sameSystem(c, before) {
			t.Errorf("%s: the system was changed", x.name)
		}
	}
	for _, x := range badSystems() {
		c := chapterSystem()
		x.change(&c)
		if e := cell.Check(c); e != api.ErrArg {
			t.Errorf("%s: %v", x.name, e)
		}
		wantError(t, x.name, c, 2, 1, 0)
		wantErrorWithoutLoads(t, x.name, c, 2, 1)
		if panels, batteries, cost, e := cell.Best(c); e != api.ErrArg || panels != 0 || batteries != 0 || cost != 0 {
			t.Errorf("%s: Best: %v %v %v %v", x.name, panels, batteries, cost, e)
		}
	}
	for days := 1; days <= api.CellDays; days++ {
		c := chapterSystem()
		c.Days, c.Window, c.Most = days, days, 0
		if e := cell.Check(c); e != api.OK {
			t.Error(days, e)
		}
		c.Window++
		if e := cell.Check(c); e != api.ErrArg {
			t.Error(days, e)
		}
	}
}

// P7.1 to P7.5: numbers of panels and batteries that are not as defined.
func TestBadNumbers(t *testing.T) {
	c := chapterSystem()
	for _, panels := range []int{-1, api.CellPanels + 1, math.MinInt, math.MaxInt} {
		wantError(t, "panels", c, panels, 2, 0)
		wantErrorWithoutLoads(t, "panels", c, panels, 2)
	}
	for _, batteries := range []int{-1, api.CellBatteries + 1, math.MinInt, math.MaxInt} {
		wantError(t, "batteries", c, 2, batteries, 0)
		wantErrorWithoutLoads(t, "batteries", c, 2, batteries)
	}
	for panels := range api.CellPanels + 1 {
		for batteries := range api.CellBatteries + 1 {
			play(t, c, panels, batteries, 0, "sccs")
			known(t, c, panels, batteries, "????")
			suffices(t, c, panels, batteries, 0)
			if _, e := cell.Off(c, panels, batteries); e != api.OK && e != api.ErrNone {
				t.Error(panels, batteries, e)
			}
		}
	}
}

// P7.1, P7.3: sets of loads that are not as defined.
func TestBadLoads(t *testing.T) {
	for loads := 1; loads <= api.CellLoads; loads++ {
		c := chapterSystem()
		c.Loads = make([]api.CellLoad, loads)
		all := 1
		for range loads {
			all *= 2
		}
		for off := range all {
			play(t, c, 2, 2, off, "sccs")
			suffices(t, c, 2, 2, off)
		}
		for _, off := range []int{-1, all, all + 1, 2 * all, math.MinInt, math.MaxInt} {
			wantError(t, "loads", c, 2, 2, off)
		}
	}
}

// badTexts are texts that are neither weathers nor skies of four days.
var badTexts = []string{
	"", "s", "sss", "sssss", "????????", "sSss", "CCCC", "ss s", " sss", "sss\n", "ssss\n", "s-cs", "s*cs", "0000", "\x00\x00\x00\x00", "sssx", "xsss",
	"ss\xff\xff", "\xff\xff\xff\xff", "ss\u00e9", "s\ufffd", "ss\u017f", "\U0001f31e", "ssss\u00e9", "\u017f\u017f\u017f\u017f", strings.Repeat("s", 100000),
}

// P7.1, P7.2: texts that are no weather, or no sky.
func TestBadTexts(t *testing.T) {
	c := chapterSystem()
	for _, text := range badTexts {
		if ends, ledger, e := cell.Play(c, 2, 2, 0, text); e != api.ErrArg || len(ends) != 0 || ledger != (api.CellLedger{}) {
			t.Errorf("Play %q: %v %v %v", text, ends, ledger, e)
		}
		if all, e := cell.Known(c, 2, 2, text); e != api.ErrArg || len(all) != 0 {
			t.Errorf("Known %q: %v %v", text, all, e)
		}
	}
	for _, text := range []string{"????", "sss?", "?ccc"} {
		if ends, ledger, e := cell.Play(c, 2, 2, 0, text); e != api.ErrArg || len(ends) != 0 || ledger != (api.CellLedger{}) {
			t.Errorf("Play %q: %v %v %v", text, ends, ledger, e)
		}
	}
	for _, weather := range plainTexts(4) {
		play(t, c, 2, 2, 0, weather)
	}
	for _, sky := range []string{"????", "s???", "???c", "cs?c"} {
		known(t, c, 2, 2, sky)
	}
}

// extremes are numbers with which arguments are replaced.
var extremes = []int{math.MinInt, math.MinInt32, -1, 0, 1, 3, 2000, math.MaxInt32, math.MaxInt}

// P0.1: whatever the arguments are, the functions return.
func TestAnyArguments(t *testing.T) {
	var c api.CellSystem
	var panels, batteries, off int
	begin := func() []*int {
		c, panels, batteries, off = chapterSystem(), 2, 2, 1
		return []*int{
			&c.Sunny, &c.Cloudy, &c.Size, &c.Fade, &c.Start, &c.Loads[0].Need, &c.Loads[0].Keep, &c.Loads[1].Need, &c.Days, &c.Window, &c.Most, &c.Panel, &c.Battery,
			&panels, &batteries, &off,
		}
	}
	for a := range begin() {
		for b := range a + 1 {
			for _, u := range extremes {
				for _, v := range extremes {
					all := begin()
					*all[a], *all[b] = u, v
					wantAnyResults(t, c, panels, batteries, off)
				}
			}
		}
	}
}

func wantAnyResults(t *testing.T, c api.CellSystem, panels, batteries, off int) {
	t.Helper()
	weather, sky := "sccs", "s??s"
	if c.Days == 1 || c.Days == 3 {
		weather, sky = weather[:c.Days], sky[:c.Days]
	}
	e := cell.Check(c)
	_, _, e1 := cell.Play(c, panels, batteries, off, weather)
	_, e2 := cell.Known(c, panels, batteries, sky)
	_, e3 := cell.Fault(c, panels, batteries, off)
	_, _, _, e4 := cell.Best(c)
	_, e5 := cell.Off(c, panels, batteries)
	if e == api.ErrArg {
		if e1 != e || e2 != e || e3 != e || e4 != e || e5 != e {
			t.Error(c, panels, batteries, off, e1, e2, e3, e4, e5)
		}
		return
	}
	if e != api.OK || e1 == api.ErrNone || (e1 == api.ErrArg) != (e3 == api.ErrArg) || e4 == api.ErrArg || (e2 == api.ErrArg) != (e5 == api.ErrArg) || e1 == api.OK && e2 == api.ErrArg {
		t.Error(c, panels, batteries, off, e, e1, e2, e3, e4, e5)
	}
}
