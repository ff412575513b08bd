package council_test

import (
	"math/rand"
	"strings"
	"testing"

	"motu/api"
	"motu/cell"
)

// P10.5: the chapter's system, panel by panel.
func TestChapterCooler(t *testing.T) {
	c := open(t, chapterAtoll(260))
	for _, x := range []struct {
		line  string
		fault api.CellFault
		e     api.Errno
	}{
		{"", api.CellFault{Sky: "ssss"}, api.OK},
		{"panel", api.CellFault{Sky: "ssss"}, api.OK},
		{"battery", api.CellFault{Sky: "sssc", Day: 3}, api.OK},
		{"panel", api.CellFault{Sky: "sscc", Day: 3}, api.OK},
		{"battery", api.CellFault{}, api.ErrNone},
	} {
		if x.line != "" {
			doAll(t, c, x.line)
		}
		if f, e := c.Cooler(); f != x.fault || e != x.e {
			t.Error(x, f, e)
		}
	}
	checkAll(t, check{c.Panel(), api.ErrRule}, check{c.Battery(), api.ErrRule})
	if n := money(t, c); n != 0 {
		t.Error(n)
	}
}

// weathers returns all texts of some days, in the order of texts with s before c.
func weathers(days int) []string {
	all := []string{""}
	for range days {
		var longer []string
		for _, text := range all {
			longer = append(longer, text+"s", text+"c")
		}
		all = longer
	}
	return all
}

// mayCome reports whether a weather is allowed.
func mayCome(c api.CellSystem, weather string) bool {
	for from := range c.Days - c.Window + 1 {
		if strings.Count(weather[from:from+c.Window], "c") > c.Most {
			return false
		}
	}
	return true
}

// firstDown returns the first fault of all weathers, and whether there is one.
func firstDown(t *testing.T, c api.CellSystem, panels, batteries int) (api.CellFault, bool) {
	t.Helper()
	for _, weather := range weathers(c.Days) {
		ends, _, e := cell.Play(c, panels, batteries, 0, weather)
		if e != api.OK {
			t.Fatal(c, panels, batteries, e)
		}
		for day, end := range ends {
			for load, l := range c.Loads {
				if mayCome(c, weather) && l.Must && end.Carried>>load%2 == 0 {
					return api.CellFault{Sky: weather, Day: day, Load: load}, true
				}
			}
		}
	}
	return api.CellFault{}, false
}

// P0.7, P10.5: if no fault is told, each load that must be carried is, on each day of each allowed weather; and the fault that is told is the first one.
func TestAllWeathers(t *testing.T) {
	r := rand.New(rand.NewSource(109))
	faults, fine := 0, 0
	for range 150 {
		a := chapterAtoll(plenty)
		a.System = randomSystem(r)
		c := open(t, a)
		panels, batteries := 0, 0
		for range 15 {
			f, e := c.Cooler()
			want, is := firstDown(t, a.System, panels, batteries)
			if f != want || is && e != api.OK || !is && e != api.ErrNone {
				t.Fatal(a.System, panels, batteries, f, want, e)
			}
			if is {
				faults++
			} else {
				fine++
			}
			if r.Intn(2) == 0 && batteries < api.CellBatteries {
				batteries++
				doAll(t, c, "battery")
			} else if panels < api.CellPanels {
				panels++
				doAll(t, c, "panel")
			}
		}
	}
	if faults < 500 || fine < 500 {
		t.Error(faults, fine)
	}
}
