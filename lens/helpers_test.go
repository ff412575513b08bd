package lens_test

import (
	"math/rand"
	"slices"

	"motu/api"
)

const n, y = false, true

func span(low, high int) api.Span { return api.Span{Low: low, High: high} }

// chapterIslet returns the islet i of the chapter's examples.
func chapterIslet() api.LensIslet {
	month := api.LensMonth{Wet: span(100, 150), Dry: span(0, 20), Need: span(40, 50)}
	return api.LensIslet{
		Cap: 1000, Start: span(400, 600), Roof: 200, Sand: 10000, Soak: span(300, 400), Leak: span(50, 100),
		Pump: 30, Keep: 250, Size: 10, Wells: []int{200, 300}, Months: []api.LensMonth{month, month, month}, Most: 2, Row: 2,
	}
}

// chapterTruth returns the truth of the chapter's first example.
func chapterTruth() api.LensTruth {
	return api.LensTruth{Start: 400, Soak: 300, Leak: 100, Dry: []bool{n, y, y}, Rains: []int{100, 0, 0}, Needs: []int{50, 50, 50}}
}

func cloneIslet(i api.LensIslet) api.LensIslet {
	i.Wells = slices.Clone(i.Wells)
	i.Months = slices.Clone(i.Months)
	return i
}

func cloneTruth(t api.LensTruth) api.LensTruth {
	t.Dry = slices.Clone(t.Dry)
	t.Rains = slices.Clone(t.Rains)
	t.Needs = slices.Clone(t.Needs)
	return t
}

func sameIslet(a, b api.LensIslet) bool {
	return a.Cap == b.Cap && a.Start == b.Start && a.Roof == b.Roof && a.Sand == b.Sand && a.Soak == b.Soak && a.Leak == b.Leak &&
		a.Pump == b.Pump && a.Keep == b.Keep && a.Size == b.Size && a.Most == b.Most && a.Row == b.Row &&
		slices.Equal(a.Wells, b.Wells) && slices.Equal(a.Months, b.Months)
}

func sameTruth(a, b api.LensTruth) bool {
	return a.Start == b.Start && a.Soak == b.Soak && a.Leak == b.Leak &&
		slices.Equal(a.Dry, b.Dry) && slices.Equal(a.Rains, b.Rains) && slices.Equal(a.Needs, b.Needs)
}

func sameFault(a, b api.LensFault) bool {
	return slices.Equal(a.Drought, b.Drought) && a.Month == b.Month && a.Rule == b.Rule && a.Well == b.Well
}

// plainPlay is the section 'What is true', written down a second time.
func plainPlay(i api.LensIslet, tanks int, t api.LensTruth, end func(month int, s api.LensSeen)) api.LensLedger {
	room := tanks * i.Size
	inTanks, inLens := room, t.Start
	x := api.LensLedger{Start: inTanks + inLens}
	for m := range i.Months {
		toTanks := i.Roof * t.Rains[m] / 1000
		toLens := i.Sand * t.Rains[m] * t.Soak / 1000000
		x.Rain += toTanks + toLens
		inTanks += toTanks
		if inTanks > room {
			x.Sea += inTanks - room
			inTanks = room
		}
		inLens += toLens
		if inLens > i.Cap {
			x.Sea += inLens - i.Cap
			inLens = i.Cap
		}
		lost := inLens * t.Leak / 1000
		x.Leak += lost
		inLens -= lost
		lack := t.Needs[m]
		for _, source := range []struct {
			from *int
			most int
		}{{&inTanks, inTanks}, {&inLens, min(i.Pump, inLens-i.Keep)}} {
			if take := min(lack, source.most); take > 0 {
				*source.from -= take
				lack -= take
				x.Used += take
			}
		}
		end(m, api.LensSeen{Tanks: inTanks, Lens: inLens, Lack: lack})
	}
	x.Kept = inTanks + inLens
	return x
}

// plainDroughts returns all droughts in their order.
func plainDroughts(i api.LensIslet) [][]bool {
	var all [][]bool
	var next func(dry []bool, most, row int)
	next = func(dry []bool, most, row int) {
		if len(dry) == len(i.Months) {
			all = append(all, slices.Clone(dry))
			return
		}
		next(append(slices.Clone(dry), false), most, i.Row)
		if most > 0 && row > 0 {
			next(append(slices.Clone(dry), true), most-1, row-1)
		}
	}
	next(nil, i.Most, i.Row)
	return all
}

// numbers returns some numbers of a span, with both ends; of a short one, all.
func numbers(s api.Span) []int {
	if s.High-s.Low > 2 {
		return []int{s.Low, (s.Low + s.High) / 2, s.High}
	}
	var all []int
	for k := s.Low; k <= s.High; k++ {
		all = append(all, k)
	}
	return all
}

// plainTruths goes through truths of a drought, with all numbers of short spans.
func plainTruths(i api.LensIslet, dry []bool, visit func(api.LensTruth)) {
	t := api.LensTruth{Dry: dry, Rains: make([]int, len(dry)), Needs: make([]int, len(dry))}
	var next func(m int)
	next = func(m int) {
		if m == len(dry) {
			visit(t)
			return
		}
		rain := i.Months[m].Wet
		if dry[m] {
			rain = i.Months[m].Dry
		}
		for _, t.Rains[m] = range numbers(rain) {
			for _, t.Needs[m] = range numbers(i.Months[m].Need) {
				next(m + 1)
			}
		}
	}
	for _, t.Start = range numbers(i.Start) {
		for _, t.Soak = range numbers(i.Soak) {
			for _, t.Leak = range numbers(i.Leak) {
				next(0)
			}
		}
	}
}

func randomSpan(r *rand.Rand, low, high, wide int) api.Span {
	s := low + r.Intn(high-low+1)
	return span(s, min(high, s+r.Intn(wide+1)))
}

// randomIslet returns a small islet in which much can go wrong, and much rounds.
func randomIslet(r *rand.Rand, months int) api.LensIslet {
	top := 20 + r.Intn(100)
	i := api.LensIslet{
		Cap: top, Start: randomSpan(r, 0, top, 20), Roof: r.Intn(600), Sand: r.Intn(3000), Soak: randomSpan(r, 0, 1000, 400),
		Leak: randomSpan(r, 0, 400, 200), Pump: r.Intn(12), Keep: r.Intn(top + 1), Size: r.Intn(8), Most: r.Intn(months + 1), Row: r.Intn(months + 1),
	}
	for range r.Intn(5) {
		i.Wells = append(i.Wells, r.Intn(1+top*2/3))
	}
	for range months {
		wet := randomSpan(r, 0, 40, 20)
		dry := span(r.Intn(wet.Low+1), 0)
		dry.High = dry.Low + r.Intn(wet.High-dry.Low+1)
		i.Months = append(i.Months, api.LensMonth{Wet: wet, Dry: dry, Need: randomSpan(r, 0, 16, 5)})
	}
	return i
}

func within(r *rand.Rand, s api.Span) int { return s.Low + r.Intn(s.High-s.Low+1) }

func rainSpan(i api.LensIslet, m int, dry bool) api.Span {
	if dry {
		return i.Months[m].Dry
	}
	return i.Months[m].Wet
}

func randomTruth(r *rand.Rand, i api.LensIslet, dry []bool) api.LensTruth {
	t := api.LensTruth{Start: within(r, i.Start), Soak: within(r, i.Soak), Leak: within(r, i.Leak), Dry: dry}
	for m, month := range i.Months {
		t.Rains = append(t.Rains, within(r, rainSpan(i, m, dry[m])))
		t.Needs = append(t.Needs, within(r, month.Need))
	}
	return t
}

// worstTruth returns the truth of a drought with least water.
func worstTruth(i api.LensIslet, dry []bool) api.LensTruth {
	t := api.LensTruth{Start: i.Start.Low, Soak: i.Soak.Low, Leak: i.Leak.High, Dry: dry}
	for m, month := range i.Months {
		t.Rains = append(t.Rains, rainSpan(i, m, dry[m]).Low)
		t.Needs = append(t.Needs, month.Need.High)
	}
	return t
}
