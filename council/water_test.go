package council_test

import (
	"math/rand"
	"slices"
	"testing"

	"motu/api"
	"motu/lens"
)

func sameFault(a, b api.LensFault) bool {
	return slices.Equal(a.Drought, b.Drought) && a.Month == b.Month && a.Rule == b.Rule && a.Well == b.Well
}

// P10.2: the chapter's islet, tank by tank.
func TestChapterWater(t *testing.T) {
	c := open(t, chapterAtoll(125))
	known := map[int]api.LensFault{
		0:  {Drought: []bool{false, false, false}, Month: 0, Rule: api.LensLacks},
		7:  {Drought: []bool{false, false, true}, Month: 2, Rule: api.LensLacks},
		11: {Drought: []bool{false, true, true}, Month: 2, Rule: api.LensLacks},
		12: {Rule: api.LensFine},
	}
	for tanks := range 13 {
		f, e := c.Water()
		want, is := known[tanks]
		if e != api.OK || is && !sameFault(f, want) || !is && f.Rule != api.LensLacks {
			t.Error(tanks, f, want, e)
		}
		if n := money(t, c); n != 125-10*tanks {
			t.Error(n)
		}
		if tanks < 12 {
			checkAll(t, check{c.Tank(), api.OK})
		}
	}
	checkAll(t, check{c.Tank(), api.ErrRule})
}

// P10.2: a well that turns salt, which tanks of no size do not help.
func TestSaltWell(t *testing.T) {
	a := chapterAtoll(plenty)
	a.Islet.Size, a.Islet.Wells = 0, []int{0, 380, 900}
	for k := range a.Islet.Months {
		a.Islet.Months[k].Need = span(0, 0)
	}
	c := open(t, a)
	for range 3 {
		f, e := c.Water()
		if want := (api.LensFault{Drought: []bool{false, false, false}, Rule: api.LensSalts, Well: 2}); !sameFault(f, want) || e != api.OK {
			t.Error(f, e)
		}
		if s, e := c.Do("water"); s != "3 0 2 0 0 0" || e != api.OK {
			t.Error(s, e)
		}
		doAll(t, c, "tank")
	}
}

// randomTruth returns what can be true of an islet in a drought.
func randomTruth(r *rand.Rand, i api.LensIslet, drought []bool) api.LensTruth {
	x := api.LensTruth{Start: within(r, i.Start), Soak: within(r, i.Soak), Leak: within(r, i.Leak), Dry: drought}
	for k, m := range i.Months {
		rain := m.Wet
		if drought[k] {
			rain = m.Dry
		}
		x.Rains, x.Needs = append(x.Rains, within(r, rain)), append(x.Needs, within(r, m.Need))
	}
	return x
}

// isThirsty reports whether anybody lacks water, or a well is salt, in truth.
func isThirsty(t *testing.T, i api.LensIslet, tanks int, x api.LensTruth) bool {
	t.Helper()
	ends, _, e := lens.Play(i, tanks, x)
	if e != api.OK {
		t.Fatal(i, x, e)
	}
	return slices.ContainsFunc(ends, func(end api.LensSeen) bool {
		return end.Lack > 0 || slices.ContainsFunc(i.Wells, func(least int) bool { return end.Lens < least })
	})
}

// anyDrought returns a drought of an islet.
func anyDrought(r *rand.Rand, i api.LensIslet) []bool {
	drought := make([]bool, len(i.Months))
	dry, row := 0, 0
	for k := range drought {
		if dry < i.Most && row < i.Row && r.Intn(2) == 0 {
			drought[k] = true
			dry++
			row++
		} else {
			row = 0
		}
	}
	return drought
}

// P0.1, P10.2: with the fewest tanks nothing goes wrong, whatever is true; with fewer something does, as is told.
func TestFewestTanks(t *testing.T) {
	r := rand.New(rand.NewSource(103))
	enough, never := 0, 0
	for range 400 {
		a := chapterAtoll(plenty)
		a.Islet = randomIslet(r)
		c := open(t, a)
		fewest, none := lens.Fewest(a.Islet)
		for tanks := range api.LensTanks + 1 {
			f, e := c.Water()
			told, _ := lens.Fault(a.Islet, tanks)
			if e != api.OK || !sameFault(f, told) {
				t.Fatal(a.Islet, tanks, f, told, e)
			}
			if isFine := none == api.OK && tanks >= fewest; (f.Rule == api.LensFine) != isFine {
				t.Fatal(a.Islet, tanks, fewest, f)
			}
			if f.Rule == api.LensFine {
				enough++
				if isThirsty(t, a.Islet, tanks, randomTruth(r, a.Islet, anyDrought(r, a.Islet))) {
					t.Fatal(a.Islet, tanks)
				}
			} else {
				never++
			}
			if tanks < api.LensTanks {
				checkAll(t, check{c.Tank(), api.OK})
			}
		}
	}
	if enough < 1000 || never < 1000 {
		t.Error(enough, never)
	}
}
