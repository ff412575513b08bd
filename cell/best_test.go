package cell_test

import (
	"cmp"
	"math/rand"
	"slices"
	"testing"

	"motu/api"
	"motu/cell"
)

// P7.4: the chapter's example, and systems near it.
func TestBestExamples(t *testing.T) {
	for _, x := range []struct {
		name                    string
		change                  func(*api.CellSystem)
		panels, batteries, cost int
		e                       api.Errno
	}{
		{"the chapter's", func(c *api.CellSystem) {}, 2, 2, 260, api.OK},
		{"one cloudy day", func(c *api.CellSystem) { c.Most = 1 }, 2, 1, 180, api.OK},
		{"panels are dear", func(c *api.CellSystem) { c.Panel = 100 }, 0, 4, 320, api.OK},
		{"panels are almost dear", func(c *api.CellSystem) { c.Panel = 79 }, 2, 2, 318, api.OK},
		{"as cheap, fewer panels", func(c *api.CellSystem) { c.Panel = 80 }, 0, 4, 320, api.OK},
		{"all for nothing", func(c *api.CellSystem) { c.Panel, c.Battery = 0, 0 }, 0, 4, 0, api.OK},
		{"panels for nothing", func(c *api.CellSystem) { c.Panel = 0 }, 4, 1, 80, api.OK},
		{"batteries for nothing", func(c *api.CellSystem) { c.Battery = 0 }, 0, 4, 0, api.OK},
		{"nothing must be carried", func(c *api.CellSystem) { c.Loads[0].Must = false }, 0, 0, 0, api.OK},
		{"what must be carried needs nothing", func(c *api.CellSystem) { c.Loads[0].Need = 0 }, 0, 0, 0, api.OK},
		{"small batteries", func(c *api.CellSystem) { c.Size = 100 }, 4, 2, 360, api.OK},
		{"tiny batteries", func(c *api.CellSystem) { c.Size = 14 }, 0, 0, 0, api.ErrNone},
		{"batteries without size", func(c *api.CellSystem) { c.Size = 0 }, 0, 0, 0, api.ErrNone},
		{"no sun", func(c *api.CellSystem) { c.Sunny, c.Cloudy = 0, 0 }, 0, 4, 320, api.OK},
		{"no sun, and little at first", func(c *api.CellSystem) { c.Sunny, c.Cloudy, c.Start = 0, 0, 300 }, 0, 0, 0, api.ErrNone},
		{"nothing at first, and perhaps no sun", func(c *api.CellSystem) { c.Cloudy, c.Start = 0, 0 }, 0, 0, 0, api.ErrNone},
		{"all panels and batteries", func(c *api.CellSystem) {
			*c = api.CellSystem{Sunny: 1, Size: 3, Loads: []api.CellLoad{{Need: 12, Keep: 12, Must: true}}, Days: 2, Window: 2, Panel: api.CellCost, Battery: api.CellCost, Start: 500}
		}, 12, 8, 20000000, api.OK},
	} {
		c := chapterSystem()
		x.change(&c)
		if panels, batteries, cost, e := cell.Best(c); e != x.e || panels != x.panels || batteries != x.batteries || cost != x.cost {
			t.Errorf("%s: %v %v %v %v", x.name, panels, batteries, cost, e)
		}
	}
}

// P7.4: what suffices can be too much with one battery more, as lights are carried then.
func TestBestIsNotAlwaysMost(t *testing.T) {
	c := api.CellSystem{Size: 100, Start: 1000, Loads: []api.CellLoad{{Need: 100, Must: true}, {Need: 150, Keep: 60}}, Days: 3, Window: 1, Panel: 1, Battery: 1}
	for batteries, want := range []bool{false, false, false, true, false, true, true, true, true} {
		if suffices(t, c, 0, batteries, 0) != want {
			t.Error(batteries)
		}
	}
	if panels, batteries, cost, e := cell.Best(c); e != api.OK || panels != 0 || batteries != 3 || cost != 3 {
		t.Error(panels, batteries, cost, e)
	}
}

// numbers is panels and batteries, and what they cost.
type numbers struct{ panels, batteries, cost int }

// plainBest returns the best of all panels and batteries, and whether any suffice.
func plainBest(c api.CellSystem) (numbers, bool) {
	var all []numbers
	for batteries := 8; batteries >= 0; batteries-- {
		for panels := 12; panels >= 0; panels-- {
			if _, found := plainFault(c, panels, batteries, 0); !found {
				all = append(all, numbers{panels, batteries, panels*c.Panel + batteries*c.Battery})
			}
		}
	}
	if len(all) == 0 {
		return numbers{}, false
	}
	return slices.MinFunc(all, func(a, b numbers) int {
		return cmp.Or(cmp.Compare(a.cost, b.cost), cmp.Compare(a.panels, b.panels), cmp.Compare(a.batteries, b.batteries))
	}), true
}

// P7.4, P0.7: the best of all panels and batteries, with which each load that must be carried is; nothing is changed.
func TestBestOfAll(t *testing.T) {
	r := rand.New(rand.NewSource(100))
	none, nothing, panelsAlone, batteriesAlone, both := 0, 0, 0, 0, 0
	for range 2000 {
		c := randomSystem(r, 1+r.Intn(4), 1+r.Intn(api.CellLoads))
		if r.Intn(3) > 0 {
			c = dimSystem(r, 1+r.Intn(5))
			c.Start = r.Intn(1001)
		}
		old := cloneSystem(c)
		panels, batteries, cost, e := cell.Best(c)
		want, found := plainBest(c)
		if found != (e == api.OK) || !found && e != api.ErrNone || (numbers{panels, batteries, cost}) != want || !sameSystem(c, old) {
			t.Fatal(c, panels, batteries, cost, e, want)
		}
		switch {
		case !found:
			none++
		case panels == 0 && batteries == 0:
			nothing++
		case panels == 0:
			batteriesAlone++
		case batteries == 0:
			panelsAlone++
		default:
			both++
		}
	}
	// without batteries nothing is carried, but what needs no energy
	if none < 80 || nothing < 100 || panelsAlone > 0 || batteriesAlone < 100 || both < 100 {
		t.Error(none, nothing, panelsAlone, batteriesAlone, both)
	}
}

// P7.4: with each panels and batteries that cost less, Fault tells of a fault, and with the best ones of none.
func TestBestAndFault(t *testing.T) {
	r := rand.New(rand.NewSource(101))
	cheaper := 0
	for range 300 {
		c := dimSystem(r, 1+r.Intn(api.CellDays))
		c.Panel, c.Battery = r.Intn(10), r.Intn(30)
		panels, batteries, cost, e := cell.Best(c)
		if e == api.OK && (cost != panels*c.Panel+batteries*c.Battery || !suffices(t, c, panels, batteries, 0)) {
			t.Fatal(c, panels, batteries, cost)
		}
		for panels := range api.CellPanels + 1 {
			for batteries := range api.CellBatteries + 1 {
				if e == api.OK && panels*c.Panel+batteries*c.Battery >= cost {
					continue
				}
				cheaper++
				if suffices(t, c, panels, batteries, 0) {
					t.Fatal(c, panels, batteries, cost, e)
				}
			}
		}
	}
	if cheaper < 1000 {
		t.Error(cheaper)
	}
}
