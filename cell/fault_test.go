package cell_test

import (
	"math/rand"
	"testing"

	"motu/api"
	"motu/cell"
)

// P7.3: the chapter's examples, and systems near it.
func TestFaultExamples(t *testing.T) {
	for _, x := range []struct {
		name              string
		change            func(*api.CellSystem)
		panels, batteries int
		off               int
		want              api.CellFault
		e                 api.Errno
	}{
		{"the chapter's first", func(c *api.CellSystem) {}, 2, 1, 0, api.CellFault{Sky: "sscc", Day: 3}, api.OK},
		{"the chapter's second", func(c *api.CellSystem) {}, 2, 2, 0, api.CellFault{}, api.ErrNone},
		{"lights do not matter", func(c *api.CellSystem) {}, 2, 1, 2, api.CellFault{Sky: "sscc", Day: 3}, api.OK},
		{"lights take too much", func(c *api.CellSystem) {}, 1, 2, 0, api.CellFault{Sky: "sscc", Day: 3}, api.OK},
		{"lights are off", func(c *api.CellSystem) {}, 1, 2, 2, api.CellFault{}, api.ErrNone},
		{"the cooler is off", func(c *api.CellSystem) {}, 12, 8, 1, api.CellFault{Sky: "ssss"}, api.OK},
		{"all is off", func(c *api.CellSystem) {}, 12, 8, 3, api.CellFault{Sky: "ssss"}, api.OK},
		{"nothing must be carried", func(c *api.CellSystem) { c.Loads[0].Must = false }, 0, 0, 3, api.CellFault{}, api.ErrNone},
		{"nothing is there", func(c *api.CellSystem) {}, 0, 0, 0, api.CellFault{Sky: "ssss"}, api.OK},
		{"on the first sunny day", func(c *api.CellSystem) {}, 0, 1, 0, api.CellFault{Sky: "ssss", Day: 1}, api.OK},
		{"one cloudy day in a row", func(c *api.CellSystem) { c.Window, c.Most = 2, 1 }, 2, 1, 0, api.CellFault{}, api.ErrNone},
		{"no cloudy day", func(c *api.CellSystem) { c.Most = 0 }, 2, 1, 0, api.CellFault{}, api.ErrNone},
		{"all days can be cloudy", func(c *api.CellSystem) { c.Window, c.Most = 1, 1 }, 2, 2, 0, api.CellFault{Sky: "sccc", Day: 3}, api.OK},
		{"three cloudy days in a row", func(c *api.CellSystem) { c.Most = 3 }, 2, 2, 0, api.CellFault{Sky: "sccc", Day: 3}, api.OK},
		{"a cloudy day comes first", func(c *api.CellSystem) { c.Start, c.Cloudy = 0, 0 }, 12, 8, 0, api.CellFault{Sky: "csss"}, api.OK},
		{"two cloudy days come first", func(c *api.CellSystem) { c.Start, c.Cloudy = 75, 0 }, 12, 8, 0, api.CellFault{Sky: "ccss", Day: 1}, api.OK},
		{"empty at first, then cloudy", func(c *api.CellSystem) { c.Start = 0 }, 2, 2, 0, api.CellFault{Sky: "sscc", Day: 3}, api.OK},
		{"the later load", func(c *api.CellSystem) { c.Loads[1].Must = true }, 2, 2, 0, api.CellFault{Sky: "sssc", Day: 3, Load: 1}, api.OK},
		{"the first load of two", func(c *api.CellSystem) { c.Loads[1].Must = true }, 0, 0, 0, api.CellFault{Sky: "ssss"}, api.OK},
		{"the second load is off", func(c *api.CellSystem) { c.Loads[1].Must = true }, 12, 8, 2, api.CellFault{Sky: "ssss", Load: 1}, api.OK},
		{"a load that needs nothing", func(c *api.CellSystem) { c.Loads[0].Need = 0 }, 0, 0, 0, api.CellFault{}, api.ErrNone},
		{"a load that needs nothing, off", func(c *api.CellSystem) { c.Loads[0].Need = 0 }, 0, 0, 1, api.CellFault{Sky: "ssss"}, api.OK},
	} {
		c := chapterSystem()
		x.change(&c)
		if fault, e := cell.Fault(c, x.panels, x.batteries, x.off); e != x.e || fault != x.want {
			t.Errorf("%s: %v %v", x.name, fault, e)
		}
	}
}

// P7.3: an earlier day of the weather comes before an earlier load.
func TestFaultEarlierDay(t *testing.T) {
	c := api.CellSystem{Size: 100, Start: 1000, Loads: []api.CellLoad{{Need: 40, Must: true}, {Need: 10, Keep: 30, Must: true}}, Days: 3, Window: 1}
	// 50 are left after the first day, and 10 after the second one, on which the second load is not carried
	if fault, e := cell.Fault(c, 0, 1, 0); e != api.OK || fault != (api.CellFault{Sky: "sss", Day: 1, Load: 1}) {
		t.Error(fault, e)
	}
}

// P7.3: the first fault of all weathers; nothing is changed.
func TestFaultOfAll(t *testing.T) {
	r := rand.New(rand.NewSource(98))
	none, sunny, later := 0, 0, 0
	for range 12000 {
		c := anySystem(r)
		panels, batteries := randomNumbers(r)
		set := r.Intn(2) * r.Intn(1<<len(c.Loads))
		if r.Intn(2) == 0 {
			c, set = dimSystem(r, 1+r.Intn(7)), 0
			panels, batteries = 1+r.Intn(4), 1+r.Intn(4)
		}
		old := cloneSystem(c)
		want, found := plainFault(c, panels, batteries, set)
		fault, e := cell.Fault(c, panels, batteries, set)
		if found != (e == api.OK) || !found && e != api.ErrNone || fault != want || !sameSystem(c, old) {
			t.Fatal(c, panels, batteries, set, fault, e, want)
		}
		switch {
		case !found:
			none++
		case plainTexts(c.Days)[0] == fault.Sky:
			sunny++
		default:
			later++
		}
	}
	if none < 1000 || sunny < 1000 || later < 1000 {
		t.Error(none, sunny, later)
	}
}

// P7.3: with as many days as there can be, a fault that is told is one, and where none is told there is none.
func TestFaultMost(t *testing.T) {
	r := rand.New(rand.NewSource(99))
	var seen [2]int
	for range 300 {
		c := randomSystem(r, api.CellDays, 1+r.Intn(api.CellLoads))
		c.Window = 2 + r.Intn(4)
		c.Most = 1 + r.Intn(2)
		panels, batteries := 1+r.Intn(api.CellPanels), 1+r.Intn(api.CellBatteries)
		fault, e := cell.Fault(c, panels, batteries, 0)
		if e != api.OK {
			seen[0]++
			for range 50 {
				weather := randomText(r, "sc", c.Days)
				ends, _ := play(t, c, panels, batteries, 0, weather)
				if _, load := plainLetsDown(c, ends); load >= 0 && plainIsAllowed(c, weather) {
					t.Fatal(c, panels, batteries, weather, load)
				}
			}
			continue
		}
		seen[1]++
		ends, _ := play(t, c, panels, batteries, 0, fault.Sky)
		if day, load := plainLetsDown(c, ends); !plainIsAllowed(c, fault.Sky) || day != fault.Day || load != fault.Load {
			t.Fatal(c, panels, batteries, fault, day, load)
		}
	}
	if seen[0] < 50 || seen[1] < 50 {
		t.Error(seen)
	}
}
