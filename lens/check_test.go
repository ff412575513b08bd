package lens_test

import (
	"math"
	"testing"

	"motu/api"
	"motu/lens"
)

type isletChange struct {
	name   string
	change func(*api.LensIslet)
}

// goodIslets are changes that leave the chapter's islet as defined; many reach a bound.
func goodIslets() []isletChange {
	return []isletChange{
		{"as it is", func(i *api.LensIslet) {}},
		{"least cap", func(i *api.LensIslet) { i.Cap, i.Start, i.Keep, i.Wells = 1, span(0, 1), 1, []int{0, 1} }},
		{"greatest cap", func(i *api.LensIslet) { i.Cap, i.Start = api.LensWater, span(0, api.LensWater) }},
		{"start is cap", func(i *api.LensIslet) { i.Start = span(1000, 1000) }},
		{"start is 0", func(i *api.LensIslet) { i.Start = span(0, 0) }},
		{"no roof", func(i *api.LensIslet) { i.Roof = 0 }},
		{"greatest roof", func(i *api.LensIslet) { i.Roof = api.LensRoof }},
		{"no sand", func(i *api.LensIslet) { i.Sand = 0 }},
		{"greatest sand", func(i *api.LensIslet) { i.Sand = api.LensSand }},
		{"any soak", func(i *api.LensIslet) { i.Soak = span(0, 1000) }},
		{"any leak", func(i *api.LensIslet) { i.Leak = span(0, 1000) }},
		{"no pump", func(i *api.LensIslet) { i.Pump = 0 }},
		{"greatest pump", func(i *api.LensIslet) { i.Pump = api.LensWater }},
		{"no keep", func(i *api.LensIslet) { i.Keep = 0 }},
		{"keep is cap", func(i *api.LensIslet) { i.Keep = 1000 }},
		{"no size", func(i *api.LensIslet) { i.Size = 0 }},
		{"greatest size", func(i *api.LensIslet) { i.Size = api.LensWater }},
		{"nil wells", func(i *api.LensIslet) { i.Wells = nil }},
		{"empty wells", func(i *api.LensIslet) { i.Wells = []int{} }},
		{"all wells", func(i *api.LensIslet) { i.Wells = []int{0, 1000, 0, 1000} }},
		{"one month", func(i *api.LensIslet) { i.Months, i.Most, i.Row = i.Months[:1], 1, 1 }},
		{"all months", func(i *api.LensIslet) {
			for len(i.Months) < api.LensMonths {
				i.Months = append(i.Months, i.Months[0])
			}
			i.Most, i.Row = 8, 8
		}},
		{"no dry months", func(i *api.LensIslet) { i.Most, i.Row = 0, 0 }},
		{"only most", func(i *api.LensIslet) { i.Most, i.Row = 3, 0 }},
		{"only row", func(i *api.LensIslet) { i.Most, i.Row = 0, 3 }},
		{"any rain", func(i *api.LensIslet) { i.Months[2].Wet, i.Months[2].Dry = span(0, 2000), span(0, 2000) }},
		{"same rain", func(i *api.LensIslet) { i.Months[0].Dry = i.Months[0].Wet }},
		{"any need", func(i *api.LensIslet) { i.Months[1].Need = span(0, api.LensWater) }},
	}
}

// badIslets are changes that leave the chapter's islet not as defined, each in one place only.
func badIslets() []isletChange {
	all := []isletChange{
		{"zero value", func(i *api.LensIslet) { *i = api.LensIslet{} }},
		{"cap 0", func(i *api.LensIslet) { i.Cap, i.Start, i.Keep, i.Wells = 0, span(0, 0), 0, nil }},
		{"cap", func(i *api.LensIslet) { i.Cap = api.LensWater + 1 }},
		{"start", func(i *api.LensIslet) { i.Start = span(-1, 600) }},
		{"start is no span", func(i *api.LensIslet) { i.Start = span(601, 600) }},
		{"start above cap", func(i *api.LensIslet) { i.Start = span(400, 1001) }},
		{"roof below", func(i *api.LensIslet) { i.Roof = -1 }},
		{"roof above", func(i *api.LensIslet) { i.Roof = api.LensRoof + 1 }},
		{"sand below", func(i *api.LensIslet) { i.Sand = -1 }},
		{"sand above", func(i *api.LensIslet) { i.Sand = api.LensSand + 1 }},
		{"soak below", func(i *api.LensIslet) { i.Soak = span(-1, 400) }},
		{"soak is no span", func(i *api.LensIslet) { i.Soak = span(401, 400) }},
		{"soak above", func(i *api.LensIslet) { i.Soak = span(300, 1001) }},
		{"leak below", func(i *api.LensIslet) { i.Leak = span(-1, 100) }},
		{"leak is no span", func(i *api.LensIslet) { i.Leak = span(101, 100) }},
		{"leak above", func(i *api.LensIslet) { i.Leak = span(50, 1001) }},
		{"pump below", func(i *api.LensIslet) { i.Pump = -1 }},
		{"pump above", func(i *api.LensIslet) { i.Pump = api.LensWater + 1 }},
		{"keep below", func(i *api.LensIslet) { i.Keep = -1 }},
		{"keep above", func(i *api.LensIslet) { i.Keep = 1001 }},
		{"size below", func(i *api.LensIslet) { i.Size = -1 }},
		{"size above", func(i *api.LensIslet) { i.Size = api.LensWater + 1 }},
		{"wells", func(i *api.LensIslet) { i.Wells = []int{1, 1, 1, 1, 1} }},
		{"first well", func(i *api.LensIslet) { i.Wells[0] = -1 }},
		{"last well", func(i *api.LensIslet) { i.Wells = []int{1, 1, 1, 1001} }},
		{"no months", func(i *api.LensIslet) { i.Months, i.Most, i.Row = nil, 0, 0 }},
		{"months", func(i *api.LensIslet) {
			for len(i.Months) <= api.LensMonths {
				i.Months = append(i.Months, i.Months[0])
			}
		}},
		{"most below", func(i *api.LensIslet) { i.Most = -1 }},
		{"most above", func(i *api.LensIslet) { i.Most = 4 }},
		{"row below", func(i *api.LensIslet) { i.Row = -1 }},
		{"row above", func(i *api.LensIslet) { i.Row = 4 }},
		{"huge", func(i *api.LensIslet) { i.Cap, i.Keep, i.Size = math.MaxInt, math.MaxInt, math.MaxInt }},
		{"tiny", func(i *api.LensIslet) { i.Cap, i.Keep, i.Size = math.MinInt, math.MinInt, math.MinInt }},
	}
	for k := range 3 {
		all = append(all, badMonths(k)...)
	}
	return all
}

func badMonths(k int) []isletChange {
	return []isletChange{
		{"wet below", func(i *api.LensIslet) { i.Months[k].Wet, i.Months[k].Dry = span(-1, 150), span(-1, 20) }},
		{"wet is no span", func(i *api.LensIslet) { i.Months[k].Wet = span(151, 150) }},
		{"wet above", func(i *api.LensIslet) { i.Months[k].Wet = span(100, 2001) }},
		{"dry below", func(i *api.LensIslet) { i.Months[k].Dry = span(-1, 20) }},
		{"dry is no span", func(i *api.LensIslet) { i.Months[k].Dry = span(21, 20) }},
		{"dry above", func(i *api.LensIslet) { i.Months[k].Dry, i.Months[k].Wet = span(0, 2001), span(100, 2001) }},
		{"dry less dry than wet", func(i *api.LensIslet) { i.Months[k].Dry = span(101, 150) }},
		{"dry can be less dry than wet", func(i *api.LensIslet) { i.Months[k].Dry = span(0, 151) }},
		{"need below", func(i *api.LensIslet) { i.Months[k].Need = span(-1, 50) }},
		{"need is no span", func(i *api.LensIslet) { i.Months[k].Need = span(51, 50) }},
		{"need above", func(i *api.LensIslet) { i.Months[k].Need = span(40, api.LensWater+1) }},
	}
}

// P1.1: what Check returns; and that no function takes an islet or a number of tanks that Check's section does not allow.
func TestCheck(t *testing.T) {
	for _, x := range goodIslets() {
		i := chapterIslet()
		x.change(&i)
		before := cloneIslet(i)
		if e := lens.Check(i); e != api.OK {
			t.Errorf("%s: %v", x.name, e)
		}
		if !sameIslet(i, before) {
			t.Errorf("%s: the islet was changed", x.name)
		}
	}
	for _, x := range badIslets() {
		i := chapterIslet()
		x.change(&i)
		if e := lens.Check(i); e != api.ErrArg {
			t.Errorf("%s: %v", x.name, e)
		}
	}
}

func TestBadIslets(t *testing.T) {
	for _, x := range badIslets() {
		i := chapterIslet()
		x.change(&i)
		wantArg(t, x.name, i, 12)
		if f, e := lens.Fewest(i); e != api.ErrArg || f != 0 {
			t.Errorf("%s: Fewest: %v %v", x.name, f, e)
		}
	}
}

func TestBadTanks(t *testing.T) {
	for _, tanks := range []int{-1, api.LensTanks + 1, math.MinInt, math.MaxInt} {
		wantArg(t, "tanks", chapterIslet(), tanks)
	}
	for _, tanks := range []int{0, api.LensTanks} {
		_, _, e := lens.Play(chapterIslet(), tanks, chapterTruth())
		_, e2 := lens.Known(chapterIslet(), tanks)
		_, e3 := lens.Fault(chapterIslet(), tanks)
		if e != api.OK || e2 != api.OK || e3 != api.OK {
			t.Error(tanks, e, e2, e3)
		}
	}
}

// wantArg asks for ErrArg, with zero values, of all that takes a number of tanks.
func wantArg(t *testing.T, name string, i api.LensIslet, tanks int) {
	t.Helper()
	if l, x, e := lens.Play(i, tanks, chapterTruth()); e != api.ErrArg || len(l) != 0 || x != (api.LensLedger{}) {
		t.Errorf("%s: Play: %v %v %v", name, l, x, e)
	}
	if k, e := lens.Known(i, tanks); e != api.ErrArg || len(k) != 0 {
		t.Errorf("%s: Known: %v %v", name, k, e)
	}
	if f, e := lens.Fault(i, tanks); e != api.ErrArg || !sameFault(f, api.LensFault{}) {
		t.Errorf("%s: Fault: %v %v", name, f, e)
	}
}

// P0.1: whatever the arguments are, the functions return.
func TestAnyArgument(t *testing.T) {
	numbers := []int{math.MinInt, -1, 0, 1, 3, 2000, math.MaxInt}
	fields := func(i *api.LensIslet, x *api.LensTruth) []*int {
		m := &i.Months[1]
		return []*int{
			&i.Cap, &i.Start.Low, &i.Start.High, &i.Roof, &i.Sand, &i.Soak.Low, &i.Soak.High, &i.Leak.Low, &i.Leak.High, &i.Pump, &i.Keep, &i.Size,
			&i.Most, &i.Row, &i.Wells[1], &m.Wet.Low, &m.Wet.High, &m.Dry.Low, &m.Dry.High, &m.Need.Low, &m.Need.High,
			&x.Start, &x.Soak, &x.Leak, &x.Rains[1], &x.Needs[1],
		}
	}
	i, x := chapterIslet(), chapterTruth()
	count := len(fields(&i, &x))
	for a := range count {
		for b := range a + 1 {
			for _, u := range numbers {
				for _, v := range numbers {
					i, x = chapterIslet(), chapterTruth()
					all := fields(&i, &x)
					*all[a], *all[b] = u, v
					callAll(t, i, v, x)
				}
			}
		}
	}
	for l := range 10 {
		x = api.LensTruth{Start: 400, Soak: 300, Leak: 100, Dry: make([]bool, l), Rains: make([]int, 9-l), Needs: make([]int, l/2)}
		i = chapterIslet()
		i.Months = make([]api.LensMonth, l)
		i.Wells = make([]int, 9-l)
		callAll(t, i, l, x)
		callAll(t, chapterIslet(), l, x)
	}
}

// callAll calls everything; if Check refuses the islet, everything must.
func callAll(t *testing.T, i api.LensIslet, tanks int, x api.LensTruth) {
	t.Helper()
	e := lens.Check(i)
	_, _, e1 := lens.Play(i, tanks, x)
	_, e2 := lens.Known(i, tanks)
	_, e3 := lens.Fault(i, tanks)
	_, e4 := lens.Fewest(i)
	bad := e != api.OK
	if bad && (e != api.ErrArg || e1 != e || e2 != e || e3 != e || e4 != e) {
		t.Error(i, tanks, x, e, e1, e2, e3, e4)
	}
	if !bad && (e2 != e3 || e4 != api.OK && e4 != api.ErrNone) {
		t.Error(i, tanks, x, e, e1, e2, e3, e4)
	}
}
