package cell_test

import (
	"math/rand"
	"strings"
	"testing"

	"motu/api"
	"motu/cell"
)

// alone returns a system with one load, which is often carried on each day of a weather.
func alone(r *rand.Rand, days int) api.CellSystem {
	c := randomSystem(r, days, 1)
	c.Start, c.Size = 500+r.Intn(501), 1+c.Size
	c.Loads[0].Need = r.Intn(7)
	return c
}

func isAlwaysCarried(ends []api.CellDay) bool {
	for _, end := range ends {
		if end.Carried != 1 {
			return false
		}
	}
	return true
}

// withSun returns a weather in which a cloudy day is sunny, if there is one.
func withSun(r *rand.Rand, weather string) string {
	days := []byte(weather)
	for _, k := range r.Perm(len(days)) {
		if days[k] == 'c' {
			days[k] = 's'
			break
		}
	}
	return string(days)
}

// P7.6: one load alone that is carried on each day of a weather is so with more panels, with more batteries, and with more sun.
func TestOneLoadAlone(t *testing.T) {
	r := rand.New(rand.NewSource(103))
	carried, helped := 0, 0
	for range 20000 {
		c := alone(r, 1+r.Intn(api.CellDays))
		panels, batteries := r.Intn(api.CellPanels), r.Intn(api.CellBatteries)
		weather := randomText(r, "sc", c.Days)
		ends, _ := play(t, c, panels, batteries, 0, weather)
		is := isAlwaysCarried(ends)
		if is {
			carried++
		}
		for _, x := range []struct {
			panels, batteries int
			weather           string
		}{{panels + 1, batteries, weather}, {panels, batteries + 1, weather}, {panels, batteries, withSun(r, weather)}} {
			more, _ := play(t, c, x.panels, x.batteries, 0, x.weather)
			if is && !isAlwaysCarried(more) {
				t.Fatal(c, panels, batteries, weather, x)
			}
			if !is && isAlwaysCarried(more) {
				helped++
			}
		}
	}
	if carried < 3000 || helped < 500 {
		t.Error(carried, helped)
	}
}

// P7.6: panels and batteries that suffice for one load alone suffice with more of them, and with fewer cloudy days.
func TestOneLoadSuffices(t *testing.T) {
	r := rand.New(rand.NewSource(104))
	enough := 0
	for range 1000 {
		c := alone(r, 1+r.Intn(6))
		c.Loads[0].Must = true
		panels, batteries := r.Intn(api.CellPanels), r.Intn(api.CellBatteries)
		if !suffices(t, c, panels, batteries, 0) {
			continue
		}
		enough++
		sunnier := cloneSystem(c)
		sunnier.Most = r.Intn(c.Most + 1)
		if !suffices(t, c, panels+1, batteries, 0) || !suffices(t, c, panels, batteries+1, 0) || !suffices(t, sunnier, panels, batteries, 0) {
			t.Fatal(c, panels, batteries)
		}
	}
	if enough < 200 {
		t.Error(enough)
	}
}

// better returns a sky of which one day more is known.
func better(r *rand.Rand, sky string) string {
	days := []byte(sky)
	for _, k := range r.Perm(len(days)) {
		if days[k] == '?' {
			days[k] = "sc"[r.Intn(2)]
			break
		}
	}
	return string(days)
}

// wantNarrower asks whether what is known of a day stays so, and tells whether more is.
func wantNarrower(t *testing.T, before, after api.CellSeen) bool {
	t.Helper()
	if after.Battery.Low < before.Battery.Low || after.Battery.High > before.Battery.High {
		t.Fatal(before, after)
	}
	for load, word := range before.Loads {
		if word != may && after.Loads[load] != word {
			t.Fatal(before, after)
		}
	}
	return !sameSeen(before, after)
}

// P7.6: a sky that is known better never has wider bounds, and what was sure of a load stays so.
func TestBetterSky(t *testing.T) {
	r := rand.New(rand.NewSource(105))
	narrower, none := 0, 0
	for range 2000 {
		c := anySystem(r)
		panels, batteries := 1+r.Intn(api.CellPanels), 1+r.Intn(api.CellBatteries)
		sky := strings.Repeat("?", c.Days)
		before := known(t, c, panels, batteries, sky)
		for strings.Contains(sky, "?") {
			sky = better(r, sky)
			after, e := cell.Known(c, panels, batteries, sky)
			if e != api.OK {
				none++
				sky = better(r, sky)
				if _, e := cell.Known(c, panels, batteries, sky); e != api.ErrNone {
					t.Fatal(c, panels, batteries, sky, e)
				}
				break
			}
			for day := range before {
				if wantNarrower(t, before[day], after[day]) {
					narrower++
				}
			}
			before = after
		}
	}
	if narrower < 1000 || none < 300 {
		t.Error(narrower, none)
	}
}
