package cell_test

import (
	"math/rand"
	"slices"
	"strings"
	"testing"

	"motu/api"
	"motu/cell"
)

const (
	never  = api.CellNever
	may    = api.CellMay
	surely = api.CellSurely
)

// P7.2: the chapter's examples, and skies near them.
func TestKnownExamples(t *testing.T) {
	lights := func(n api.CellWord) []api.CellWord { return []api.CellWord{surely, n} }
	for _, x := range []struct {
		name              string
		panels, batteries int
		sky               string
		want              []api.CellSeen
	}{
		{"the chapter's", 2, 1, "ss??", []api.CellSeen{
			{Battery: exactly(80), Loads: lights(never)}, {Battery: exactly(80), Loads: lights(never)},
			{Battery: span(0, 80), Loads: lights(never)}, {Battery: span(0, 80), Loads: []api.CellWord{may, never}},
		}},
		{"a weather", 2, 2, "sccs", []api.CellSeen{
			{Battery: exactly(218), Loads: lights(surely)}, {Battery: exactly(137), Loads: lights(never)},
			{Battery: exactly(57), Loads: lights(never)}, {Battery: exactly(136), Loads: lights(never)},
		}},
		{"clouds before and after a day that must be sunny", 2, 1, "cc??", []api.CellSeen{
			{Battery: exactly(80), Loads: lights(never)}, {Battery: exactly(0), Loads: lights(never)},
			{Battery: exactly(80), Loads: lights(never)}, {Battery: span(0, 80), Loads: lights(never)},
		}},
		{"more now is less tomorrow", 2, 2, "s?ss", []api.CellSeen{
			{Battery: exactly(218), Loads: lights(surely)}, {Battery: span(137, 218), Loads: []api.CellWord{surely, may}},
			{Battery: span(156, 218), Loads: lights(surely)}, {Battery: span(175, 218), Loads: lights(surely)},
		}},
	} {
		all := known(t, chapterSystem(), x.panels, x.batteries, x.sky)
		if !slices.EqualFunc(all, x.want, sameSeen) {
			t.Errorf("%s: %v", x.name, all)
		}
	}
}

// P7.2: skies with which no allowed weather agrees.
func TestKnownNone(t *testing.T) {
	for _, x := range []struct {
		window, most int
		sky          string
		e            api.Errno
	}{
		{3, 2, "ccc?", api.ErrNone}, {3, 2, "?ccc", api.ErrNone}, {3, 2, "cccc", api.ErrNone}, {3, 2, "cc?c", api.OK}, {3, 2, "c??c", api.OK},
		{4, 2, "cc?c", api.ErrNone}, {4, 2, "c??c", api.OK}, {4, 0, "???c", api.ErrNone}, {4, 0, "????", api.OK}, {4, 0, "ssss", api.OK}, {4, 4, "cccc", api.OK},
		{1, 0, "s?sc", api.ErrNone}, {1, 1, "cccc", api.OK}, {2, 1, "?cc?", api.ErrNone}, {2, 1, "c?c?", api.OK}, {3, 1, "c?c?", api.ErrNone}, {3, 1, "c??c", api.OK},
		{2, 0, "???c", api.ErrNone}, {2, 0, "c???", api.ErrNone}, {3, 3, "cccc", api.OK},
	} {
		c := chapterSystem()
		c.Window, c.Most = x.window, x.most
		all, e := cell.Known(c, 2, 1, x.sky)
		if e != x.e || (len(all) != 0) != (e == api.OK) {
			t.Error(x, all, e)
		}
	}
}

// plainKnown goes through all weathers, and tells whether there is one.
func plainKnown(c api.CellSystem, panels, batteries int, sky string) ([]api.CellSeen, bool) {
	weathers := plainWeathers(c, sky)
	if len(weathers) == 0 {
		return nil, false
	}
	var all []api.CellSeen
	for day := range c.Days {
		var energies []int
		times := make([]int, len(c.Loads))
		for _, weather := range weathers {
			ends, _ := plainPlay(c, panels, batteries, 0, weather[:day+1])
			energies = append(energies, ends[day].Battery)
			for load := range times {
				if isOne(ends[day].Carried, load) {
					times[load]++
				}
			}
		}
		seen := api.CellSeen{Battery: span(slices.Min(energies), slices.Max(energies))}
		for _, n := range times {
			word := may
			if n == 0 {
				word = never
			} else if n == len(weathers) {
				word = surely
			}
			seen.Loads = append(seen.Loads, word)
		}
		all = append(all, seen)
	}
	return all, true
}

// P7.2: all weathers of any sky; nothing is changed or shared.
func TestKnownAll(t *testing.T) {
	r := rand.New(rand.NewSource(96))
	words := map[api.CellWord]int{}
	none := 0
	for range 5000 {
		c := anySystem(r)
		panels, batteries := randomNumbers(r)
		sky := randomText(r, []string{"?", "s?", "sc?", "????c", "sc"}[r.Intn(5)], c.Days)
		old := cloneSystem(c)
		want, found := plainKnown(c, panels, batteries, sky)
		if !found {
			none++
			if all, e := cell.Known(c, panels, batteries, sky); e != api.ErrNone || len(all) != 0 {
				t.Fatal(c, panels, batteries, sky, all, e)
			}
			continue
		}
		all := known(t, c, panels, batteries, sky)
		if !slices.EqualFunc(all, want, sameSeen) {
			t.Fatal(c, panels, batteries, sky, all, want)
		}
		for day, seen := range all {
			for _, word := range seen.Loads {
				words[word]++
			}
			clear(seen.Loads)
			if day+1 < len(all) && !sameSeen(all[day+1], want[day+1]) {
				t.Fatal("shared", all)
			}
		}
		clear(all)
		if !slices.EqualFunc(known(t, c, panels, batteries, sky), want, sameSeen) || !sameSystem(c, old) {
			t.Fatal("changed", c, old)
		}
	}
	if words[never] < 1000 || words[may] < 1000 || words[surely] < 1000 || none < 300 {
		t.Error(words, none)
	}
}

// P7.2: neither the sunniest weather nor the cloudiest one always has the bounds.
func TestKnownIsNotAtEnds(t *testing.T) {
	r := rand.New(rand.NewSource(97))
	below, above := 0, 0
	for range 1000 {
		c := randomSystem(r, 5, 3)
		c.Most = c.Window
		panels, batteries := randomNumbers(r)
		all := known(t, c, panels, batteries, "?????")
		sunny, _ := plainPlay(c, panels, batteries, 0, "sssss")
		cloudy, _ := plainPlay(c, panels, batteries, 0, "ccccc")
		for day, seen := range all {
			if seen.Battery.Low < cloudy[day].Battery && seen.Battery.Low < sunny[day].Battery {
				below++
			}
			if seen.Battery.High > cloudy[day].Battery && seen.Battery.High > sunny[day].Battery {
				above++
			}
		}
	}
	if below < 100 || above < 100 {
		t.Error(below, above)
	}
}

// P7.2: as many days as there can be.
func TestKnownMost(t *testing.T) {
	var c api.CellSystem
	most(&c)
	c.Cloudy, c.Fade, c.Start, c.Days, c.Window, c.Most = 0, 0, 0, api.CellDays, api.CellDays, api.CellDays
	c.Loads = c.Loads[:1]
	sky := strings.Repeat("?", api.CellDays)
	for day, seen := range known(t, c, 1, 8, sky) {
		// the load needs the energy of one sunny day, and keeps that of another
		if seen.Battery != span(0, min(day+1, 1)*1000000) || seen.Loads[0] != []api.CellWord{never, may}[min(day, 1)] {
			t.Error(day, seen)
		}
	}
	for day, seen := range known(t, c, 12, 8, sky) {
		if seen.Battery != span(0, 7000000) || seen.Loads[0] != may {
			t.Error(day, seen)
		}
	}
}
