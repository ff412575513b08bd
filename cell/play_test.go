package cell_test

import (
	"math/rand"
	"slices"
	"strings"
	"testing"

	"motu/api"
)

// P7.1: the chapter's example, and weathers near it.
func TestPlayExamples(t *testing.T) {
	for _, x := range []struct {
		name              string
		panels, batteries int
		off               int
		weather           string
		ends              []api.CellDay
		ledger            api.CellLedger
	}{
		{
			"the chapter's", 2, 2, 0, "sccs",
			[]api.CellDay{{Battery: 218, Carried: 3}, {Battery: 137, Carried: 1}, {Battery: 57, Carried: 1}, {Battery: 136, Carried: 1}},
			api.CellLedger{Start: 400, Sun: 480, Used: 540, Lost: 200, Faded: 4, Left: 136},
		},
		{
			"lights are off", 2, 2, 2, "sccs",
			[]api.CellDay{{Battery: 278, Carried: 1}, {Battery: 197, Carried: 1}, {Battery: 116, Carried: 1}, {Battery: 195, Carried: 1}},
			api.CellLedger{Start: 400, Sun: 480, Used: 480, Lost: 200, Faded: 5, Left: 195},
		},
		{
			"a weather that is not allowed", 2, 2, 0, "cccs",
			[]api.CellDay{{Battery: 218, Carried: 3}, {Battery: 137, Carried: 1}, {Battery: 57, Carried: 1}, {Battery: 136, Carried: 1}},
			api.CellLedger{Start: 400, Sun: 320, Used: 540, Lost: 40, Faded: 4, Left: 136},
		},
		{
			"the cooler is let down, and carried again", 2, 1, 0, "sccs",
			[]api.CellDay{{Battery: 80, Carried: 1}, {Carried: 1}, {Battery: 40}, {Battery: 80, Carried: 1}},
			api.CellLedger{Start: 200, Sun: 480, Used: 360, Lost: 240, Left: 80},
		},
		{
			"nothing at all", 0, 0, 0, "sccs", make([]api.CellDay, 4), api.CellLedger{},
		},
		{
			"no batteries", 12, 0, 0, "sccs", make([]api.CellDay, 4), api.CellLedger{Sun: 2880, Lost: 2880},
		},
	} {
		ends, ledger := play(t, chapterSystem(), x.panels, x.batteries, x.off, x.weather)
		if !slices.Equal(ends, x.ends) || ledger != x.ledger {
			t.Errorf("%s: %v %v", x.name, ends, ledger)
		}
	}
}

// load is one that needs some energy, and keeps some.
func load(need, keep int) api.CellLoad { return api.CellLoad{Need: need, Keep: keep} }

// oneDay returns a system of one day without sun, with batteries of 100 that are half full, and with a load that needs nothing.
func oneDay() api.CellSystem {
	return api.CellSystem{Size: 100, Start: 500, Loads: []api.CellLoad{load(0, 0)}, Days: 1, Window: 1, Most: 1}
}

// P7.1: each step of a day alone, at its roundings and bounds.
func TestPlaySteps(t *testing.T) {
	for _, x := range []struct {
		name              string
		panels, batteries int
		off               int
		weather           string
		set               func(*api.CellSystem)
		end               api.CellDay
		ledger            api.CellLedger
	}{
		{"nothing", 1, 1, 0, "s", func(c *api.CellSystem) {}, api.CellDay{Battery: 50, Carried: 1}, api.CellLedger{Start: 50, Left: 50}},
		{"the start is rounded down", 1, 1, 0, "s", func(c *api.CellSystem) { c.Start = 509 }, api.CellDay{Battery: 50, Carried: 1}, api.CellLedger{Start: 50, Left: 50}},
		{"the start of all batteries", 1, 2, 0, "s", func(c *api.CellSystem) { c.Start = 509 }, api.CellDay{Battery: 101, Carried: 1}, api.CellLedger{Start: 101, Left: 101}},
		{"full at first", 1, 3, 0, "s", func(c *api.CellSystem) { c.Start = 1000 }, api.CellDay{Battery: 300, Carried: 1}, api.CellLedger{Start: 300, Left: 300}},
		{"empty at first", 1, 3, 0, "s", func(c *api.CellSystem) { c.Start = 0 }, api.CellDay{Carried: 1}, api.CellLedger{}},
		{"sun", 1, 1, 0, "s", func(c *api.CellSystem) { c.Sunny, c.Cloudy = 30, 20 }, api.CellDay{Battery: 80, Carried: 1}, api.CellLedger{Start: 50, Sun: 30, Left: 80}},
		{"clouds", 1, 1, 0, "c", func(c *api.CellSystem) { c.Sunny, c.Cloudy = 30, 20 }, api.CellDay{Battery: 70, Carried: 1}, api.CellLedger{Start: 50, Sun: 20, Left: 70}},
		{"sun on many panels", 4, 1, 0, "s", func(c *api.CellSystem) { c.Sunny, c.Cloudy = 12, 5 }, api.CellDay{Battery: 98, Carried: 1}, api.CellLedger{Start: 50, Sun: 48, Left: 98}},
		{"clouds on many panels", 4, 1, 0, "c", func(c *api.CellSystem) { c.Sunny, c.Cloudy = 12, 5 }, api.CellDay{Battery: 70, Carried: 1}, api.CellLedger{Start: 50, Sun: 20, Left: 70}},
		{"no panels", 0, 1, 0, "s", func(c *api.CellSystem) { c.Sunny = 30 }, api.CellDay{Battery: 50, Carried: 1}, api.CellLedger{Start: 50, Left: 50}},
		{"just full", 5, 1, 0, "s", func(c *api.CellSystem) { c.Sunny = 10 }, api.CellDay{Battery: 100, Carried: 1}, api.CellLedger{Start: 50, Sun: 50, Left: 100}},
		{"one is lost", 3, 1, 0, "s", func(c *api.CellSystem) { c.Sunny = 17 }, api.CellDay{Battery: 100, Carried: 1}, api.CellLedger{Start: 50, Sun: 51, Lost: 1, Left: 100}},
		{"without batteries all is lost", 1, 0, 0, "s", func(c *api.CellSystem) { c.Sunny = 30 }, api.CellDay{Carried: 1}, api.CellLedger{Sun: 30, Lost: 30}},
		{"without batteries nothing is carried", 1, 0, 0, "s", func(c *api.CellSystem) { c.Sunny, c.Loads[0].Need = 30, 1 }, api.CellDay{}, api.CellLedger{Sun: 30, Lost: 30}},
		{"batteries without size", 1, 8, 0, "s", func(c *api.CellSystem) { c.Sunny, c.Size = 30, 0 }, api.CellDay{Carried: 1}, api.CellLedger{Sun: 30, Lost: 30}},
		{"loads take no sun that is lost", 1, 1, 0, "s", func(c *api.CellSystem) { c.Sunny, c.Loads[0].Need = 60, 101 }, api.CellDay{Battery: 100}, api.CellLedger{Start: 50, Sun: 60, Lost: 10, Left: 100}},
		{"loads take all that is held", 1, 1, 0, "s", func(c *api.CellSystem) { c.Sunny, c.Loads[0].Need = 60, 100 }, api.CellDay{Carried: 1}, api.CellLedger{Start: 50, Sun: 60, Used: 100, Lost: 10}},
		{"sun before loads", 1, 1, 0, "s", func(c *api.CellSystem) { c.Sunny, c.Loads[0].Need = 10, 60 }, api.CellDay{Carried: 1}, api.CellLedger{Start: 50, Sun: 10, Used: 60}},
		{"need and keep together", 1, 1, 0, "s", func(c *api.CellSystem) { c.Loads[0] = load(30, 20) }, api.CellDay{Battery: 20, Carried: 1}, api.CellLedger{Start: 50, Used: 30, Left: 20}},
		{"one less than both", 1, 1, 0, "s", func(c *api.CellSystem) { c.Loads[0] = load(30, 21) }, api.CellDay{Battery: 50}, api.CellLedger{Start: 50, Left: 50}},
		{"need alone is more", 1, 1, 0, "s", func(c *api.CellSystem) { c.Loads[0] = load(51, 0) }, api.CellDay{Battery: 50}, api.CellLedger{Start: 50, Left: 50}},
		{"keep alone is more", 1, 1, 0, "s", func(c *api.CellSystem) { c.Loads[0] = load(0, 51) }, api.CellDay{Battery: 50}, api.CellLedger{Start: 50, Left: 50}},
		{"no need, just the keep", 1, 1, 0, "s", func(c *api.CellSystem) { c.Loads[0] = load(0, 50) }, api.CellDay{Battery: 50, Carried: 1}, api.CellLedger{Start: 50, Left: 50}},
		{"loads in order", 1, 1, 0, "s", func(c *api.CellSystem) { c.Loads = []api.CellLoad{load(40, 0), load(20, 0), load(10, 0)} }, api.CellDay{Carried: 5}, api.CellLedger{Start: 50, Used: 50}},
		{"the first load is too much", 1, 1, 0, "s", func(c *api.CellSystem) { c.Loads = []api.CellLoad{load(60, 0), load(20, 0), load(10, 0)} }, api.CellDay{Battery: 20, Carried: 6}, api.CellLedger{Start: 50, Used: 30, Left: 20}},
		{"all loads", 1, 1, 0, "s", func(c *api.CellSystem) {
			c.Loads = []api.CellLoad{load(1, 0), load(2, 0), load(3, 0), load(4, 0), load(5, 0)}
		}, api.CellDay{Battery: 35, Carried: 31}, api.CellLedger{Start: 50, Used: 15, Left: 35}},
		{"a load that must be carried is not carried first", 1, 1, 0, "s", func(c *api.CellSystem) { c.Loads = []api.CellLoad{load(40, 0), {Need: 20, Must: true}} }, api.CellDay{Battery: 10, Carried: 1}, api.CellLedger{Start: 50, Used: 40, Left: 10}},
		{"what one load keeps, the next one takes", 1, 1, 0, "s", func(c *api.CellSystem) { c.Loads = []api.CellLoad{load(20, 30), load(30, 0)} }, api.CellDay{Carried: 3}, api.CellLedger{Start: 50, Used: 50}},
		{"the second load keeps of what is left", 1, 1, 0, "s", func(c *api.CellSystem) { c.Loads = []api.CellLoad{load(20, 0), load(20, 11)} }, api.CellDay{Battery: 30, Carried: 1}, api.CellLedger{Start: 50, Used: 20, Left: 30}},
		{"the first load is off", 1, 1, 1, "s", func(c *api.CellSystem) { c.Loads = []api.CellLoad{load(40, 0), load(20, 0), load(10, 0)} }, api.CellDay{Battery: 20, Carried: 6}, api.CellLedger{Start: 50, Used: 30, Left: 20}},
		{"the last load is off", 1, 1, 4, "s", func(c *api.CellSystem) { c.Loads = []api.CellLoad{load(40, 0), load(20, 0), load(10, 0)} }, api.CellDay{Battery: 10, Carried: 1}, api.CellLedger{Start: 50, Used: 40, Left: 10}},
		{"all loads are off", 1, 1, 7, "s", func(c *api.CellSystem) { c.Loads = []api.CellLoad{load(40, 0), load(0, 0), {Must: true}} }, api.CellDay{Battery: 50}, api.CellLedger{Start: 50, Left: 50}},
		{"the fade is rounded down", 1, 1, 0, "s", func(c *api.CellSystem) { c.Fade = 199 }, api.CellDay{Battery: 41, Carried: 1}, api.CellLedger{Start: 50, Faded: 9, Left: 41}},
		{"too little to fade", 1, 1, 0, "s", func(c *api.CellSystem) { c.Fade = 19 }, api.CellDay{Battery: 50, Carried: 1}, api.CellLedger{Start: 50, Left: 50}},
		{"what loads leave fades", 1, 1, 0, "s", func(c *api.CellSystem) { c.Fade, c.Loads[0].Need = 100, 20 }, api.CellDay{Battery: 27, Carried: 1}, api.CellLedger{Start: 50, Used: 20, Faded: 3, Left: 27}},
		{"loads come before the fade", 1, 1, 0, "s", func(c *api.CellSystem) { c.Fade, c.Loads[0].Need = 1000, 50 }, api.CellDay{Carried: 1}, api.CellLedger{Start: 50, Used: 50}},
		{"all fades", 1, 1, 0, "s", func(c *api.CellSystem) { c.Fade = 1000 }, api.CellDay{Carried: 1}, api.CellLedger{Start: 50, Faded: 50}},
		{"sun fades, too", 1, 1, 0, "s", func(c *api.CellSystem) { c.Sunny, c.Fade = 70, 100 }, api.CellDay{Battery: 90, Carried: 1}, api.CellLedger{Start: 50, Sun: 70, Lost: 20, Faded: 10, Left: 90}},
	} {
		c := oneDay()
		x.set(&c)
		ends, ledger := play(t, c, x.panels, x.batteries, x.off, x.weather)
		if ends[0] != x.end || ledger != x.ledger {
			t.Errorf("%s: %v %v", x.name, ends, ledger)
		}
	}
}

// P7.1: the greatest numbers, with products beyond 32 bits.
func TestPlayMost(t *testing.T) {
	var c api.CellSystem
	most(&c)
	c.Fade, c.Days = 999, api.CellDays
	for _, weather := range []string{strings.Repeat("s", 10), strings.Repeat("c", 10)} {
		ends, ledger := play(t, c, api.CellPanels, api.CellBatteries, 0, weather)
		if !slices.Equal(ends, slices.Repeat([]api.CellDay{{Battery: 3000, Carried: 31}}, 10)) {
			t.Error(ends)
		}
		if ledger != (api.CellLedger{Start: 8000000, Sun: 120000000, Used: 50000000, Lost: 12000000 + 9*4003000, Faded: 10 * 2997000, Left: 3000}) {
			t.Error(ledger)
		}
	}
}

// P7.1: any system, against a second writing of the section, with a ledger that adds up; nothing is changed or shared.
func TestPlayAll(t *testing.T) {
	r := rand.New(rand.NewSource(95))
	var carried [2]int
	for range 20000 {
		c := randomSystem(r, 1+r.Intn(api.CellDays), 1+r.Intn(api.CellLoads))
		panels, batteries := randomNumbers(r)
		off, weather := r.Intn(2)*r.Intn(1<<len(c.Loads)), randomText(r, "sc", c.Days)
		old := cloneSystem(c)
		want, book := plainPlay(c, panels, batteries, off, weather)
		ends, ledger := play(t, c, panels, batteries, off, weather)
		if !slices.Equal(ends, want) || ledger != book {
			t.Fatal(c, panels, batteries, off, weather, ends, ledger, want, book)
		}
		if ledger.Start+ledger.Sun != ledger.Used+ledger.Lost+ledger.Faded+ledger.Left {
			t.Fatal(c, panels, batteries, off, weather, ledger)
		}
		for _, end := range ends {
			carried[min(1, end.Carried)]++
		}
		clear(ends)
		again, also := play(t, c, panels, batteries, off, weather)
		if !slices.Equal(again, want) || also != book || !sameSystem(c, old) {
			t.Fatal("changed", c, old, again)
		}
	}
	if slices.Min(carried[:]) < 10000 {
		t.Error(carried)
	}
}
