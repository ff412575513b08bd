package bane_test

import (
	"math"
	"math/rand"
	"slices"
	"testing"

	"motu/api"
	"motu/bane"
)

// webChange is a change of the chapter's web, by its name.
type webChange struct {
	name   string
	change func(*api.BaneWeb)
}

// goodWebs are changes that leave the chapter's web as defined; many reach a bound.
func goodWebs() []webChange {
	return []webChange{
		{"as it is", func(w *api.BaneWeb) {}},
		{"one kind", func(w *api.BaneWeb) { w.Fish = w.Fish[:1] }},
		{"all kinds", func(w *api.BaneWeb) { *w = fullWeb() }},
		{"no limit", func(w *api.BaneWeb) { w.Limit = 0 }},
		{"greatest limit", func(w *api.BaneWeb) { w.Limit = api.BaneLevel }},
		{"no base", func(w *api.BaneWeb) { w.Fish[0].Base = exactly(0) }},
		{"greatest base", func(w *api.BaneWeb) { w.Fish[0].Base = exactly(api.BaneLevel) }},
		{"any base", func(w *api.BaneWeb) { w.Fish[2].Base = span(0, api.BaneLevel) }},
		{"any share", func(w *api.BaneWeb) { w.Fish[1].Bites[0].Share = span(0, 1000) }},
		{"no share", func(w *api.BaneWeb) { w.Fish[1].Bites[0].Share = exactly(0) }},
		{"greatest share", func(w *api.BaneWeb) { w.Fish[2].Bites[1].Share = exactly(1000) }},
		{"nothing passes", func(w *api.BaneWeb) { w.Fish[1].Pass = 0 }},
		{"all passes", func(w *api.BaneWeb) { w.Fish[1].Pass = api.BaneLevel }},
		{"free", func(w *api.BaneWeb) { w.Fish[2].Cost = 0 }},
		{"dearest", func(w *api.BaneWeb) { w.Fish[2].Cost = api.BaneCost }},
		{"none is eaten", func(w *api.BaneWeb) { w.Fish[1].Bites, w.Fish[2].Bites = nil, []api.BaneBite{} }},
		{"eaten in order", func(w *api.BaneWeb) { slices.Reverse(w.Fish[2].Bites) }},
	}
}

// fullWeb returns a web in which there is as much of all as there may be.
func fullWeb() api.BaneWeb {
	w := api.BaneWeb{Limit: api.BaneLevel}
	for kind := range api.BaneFishes {
		f := api.BaneFish{Base: span(0, api.BaneLevel), Pass: api.BaneLevel, Cost: api.BaneCost}
		for prey := range kind {
			f.Bites = append(f.Bites, bite(prey, 0, 1000))
		}
		w.Fish = append(w.Fish, f)
	}
	return w
}

// badWebs are changes that leave the chapter's web not as defined, each in one place only.
func badWebs() []webChange {
	all := []webChange{
		{"zero value", func(w *api.BaneWeb) { *w = api.BaneWeb{} }},
		{"nil fish", func(w *api.BaneWeb) { w.Fish = nil }},
		{"no fish", func(w *api.BaneWeb) { w.Fish = []api.BaneFish{} }},
		{"kinds", func(w *api.BaneWeb) { w.Fish = make([]api.BaneFish, api.BaneFishes+1) }},
		{"limit below", func(w *api.BaneWeb) { w.Limit = -1 }},
		{"limit above", func(w *api.BaneWeb) { w.Limit = api.BaneLevel + 1 }},
		{"tiny limit", func(w *api.BaneWeb) { w.Limit = math.MinInt }},
		{"huge limit", func(w *api.BaneWeb) { w.Limit = math.MaxInt }},
		{"the first one eats", func(w *api.BaneWeb) { w.Fish[0].Bites = []api.BaneBite{bite(0, 0, 0)} }},
		{"prey below", func(w *api.BaneWeb) { w.Fish[1].Bites[0].Prey = -1 }},
		{"tiny prey", func(w *api.BaneWeb) { w.Fish[1].Bites[0].Prey = math.MinInt }},
		{"huge prey", func(w *api.BaneWeb) { w.Fish[1].Bites[0].Prey = math.MaxInt }},
		{"eats itself", func(w *api.BaneWeb) { w.Fish[1].Bites[0].Prey = 1 }},
		{"eats a greater one", func(w *api.BaneWeb) { w.Fish[1].Bites[0].Prey = 2 }},
		{"the last eats itself", func(w *api.BaneWeb) { w.Fish[2].Bites[1].Prey = 2 }},
		{"eats one twice", func(w *api.BaneWeb) { w.Fish[2].Bites[1].Prey = 1 }},
		{"eats the first one twice", func(w *api.BaneWeb) { w.Fish[2].Bites[0].Prey = 0 }},
		{"eats one twice, among others", func(w *api.BaneWeb) { w.Fish[2].Bites = append(w.Fish[2].Bites, bite(1, 0, 0)) }},
		{"bites", func(w *api.BaneWeb) { *w = fullWeb(); w.Fish[6].Bites = append(w.Fish[6].Bites, bite(5, 0, 0)) }},
		{"share below", func(w *api.BaneWeb) { w.Fish[1].Bites[0].Share = span(-1, 800) }},
		{"share is no span", func(w *api.BaneWeb) { w.Fish[1].Bites[0].Share = span(801, 800) }},
		{"share above", func(w *api.BaneWeb) { w.Fish[1].Bites[0].Share = span(500, 1001) }},
		{"last share above", func(w *api.BaneWeb) { w.Fish[2].Bites[1].Share = span(1001, 1001) }},
	}
	for kind := range 3 {
		all = append(all, badFish(kind)...)
	}
	return all
}

func badFish(kind int) []webChange {
	return []webChange{
		{"base below", func(w *api.BaneWeb) { w.Fish[kind].Base = span(-1, 20) }},
		{"base is no span", func(w *api.BaneWeb) { w.Fish[kind].Base = span(21, 20) }},
		{"base above", func(w *api.BaneWeb) { w.Fish[kind].Base = span(10, api.BaneLevel+1) }},
		{"pass below", func(w *api.BaneWeb) { w.Fish[kind].Pass = -1 }},
		{"pass above", func(w *api.BaneWeb) { w.Fish[kind].Pass = api.BaneLevel + 1 }},
		{"cost below", func(w *api.BaneWeb) { w.Fish[kind].Cost = -1 }},
		{"cost above", func(w *api.BaneWeb) { w.Fish[kind].Cost = api.BaneCost + 1 }},
	}
}

// P4.1: what CheckWeb returns.
func TestCheckWeb(t *testing.T) {
	for _, x := range goodWebs() {
		w := chapterWeb()
		x.change(&w)
		if e := bane.CheckWeb(w); e != api.OK {
			t.Errorf("%s: %v", x.name, e)
		}
		levels(t, w)
	}
	for _, x := range badWebs() {
		w := chapterWeb()
		x.change(&w)
		if e := bane.CheckWeb(w); e != api.ErrArg {
			t.Errorf("%s: %v", x.name, e)
		}
	}
}

// P4.1 to P4.3: no function takes a web that CheckWeb's section does not allow.
func TestBadWebs(t *testing.T) {
	for _, x := range badWebs() {
		w := chapterWeb()
		x.change(&w)
		if l, e := bane.Levels(w); e != api.ErrArg || len(l) != 0 {
			t.Errorf("%s: Levels: %v %v", x.name, l, e)
		}
		if l, e := bane.Play(w, chapterTruth()); e != api.ErrArg || len(l) != 0 {
			t.Errorf("%s: Play: %v %v", x.name, l, e)
		}
		wantKindArg(t, x.name, w, 0)
		wantMenuArg(t, x.name, w, nil)
	}
}

func wantKindArg(t *testing.T, name string, w api.BaneWeb, kind int) {
	t.Helper()
	if l, e := bane.Worst(w, kind); e != api.ErrArg || len(l) != 0 {
		t.Errorf("%s %v: Worst: %v %v", name, kind, l, e)
	}
}

// wantMenuArg asks for ErrArg if a list is the menu, and if it is the tests.
func wantMenuArg(t *testing.T, name string, w api.BaneWeb, list []int) {
	t.Helper()
	if is, e := bane.Suffice(w, list, nil); e != api.ErrArg || is {
		t.Errorf("%s %v: Suffice: %v %v", name, list, is, e)
	}
	if is, e := bane.Suffice(w, nil, list); e != api.ErrArg || is {
		t.Errorf("%s %v: Suffice: %v %v", name, list, is, e)
	}
	if l, c, e := bane.Tests(w, list); e != api.ErrArg || len(l) != 0 || c != 0 {
		t.Errorf("%s %v: Tests: %v %v %v", name, list, l, c, e)
	}
}

// badLists returns lists that are not strictly increasing numbers below some count.
func badLists(count int) [][]int {
	return [][]int{
		{-1}, {count}, {0, 0}, {1, 1}, {1, 0}, {0, 2, 1}, {0, 1, 2, 2}, {-1, 0}, {0, count}, {count, 0}, {math.MinInt}, {math.MaxInt}, {0, math.MaxInt},
		make([]int, 1000),
	}
}

// P4.2 and P4.3: kinds that are not there, and menus and tests that are not as defined.
func TestBadKinds(t *testing.T) {
	for _, kind := range []int{-1, 3, 64, math.MinInt, math.MaxInt} {
		wantKindArg(t, "kind", chapterWeb(), kind)
	}
	for _, list := range badLists(3) {
		wantMenuArg(t, "list", chapterWeb(), list)
	}
}

// seaChange is a change of the chapter's sea, by its name.
type seaChange struct {
	name   string
	change func(*api.BaneSea)
}

// goodSeas are changes that leave the chapter's sea as defined; many reach a bound.
func goodSeas() []seaChange {
	return []seaChange{
		{"as it is", func(s *api.BaneSea) {}},
		{"one islet", func(s *api.BaneSea) { *s = api.BaneSea{Islets: 1, Infested: []int{0}, Clean: []int{0}} }},
		{"all islets", func(s *api.BaneSea) { s.Islets = api.BaneIslets; s.Infested, s.Clean = []int{7}, []int{0, 7} }},
		{"all infested", func(s *api.BaneSea) { s.Infested = []int{0, 1, 2, 3} }},
		{"all clean", func(s *api.BaneSea) { s.Clean = []int{0, 1, 2, 3} }},
		{"none infested", func(s *api.BaneSea) { s.Infested = nil }},
		{"none clean", func(s *api.BaneSea) { s.Clean = []int{} }},
		{"both", func(s *api.BaneSea) { s.Clean = []int{0, 3} }},
		{"no trips", func(s *api.BaneSea) { s.Trips = nil }},
		{"all trips", func(s *api.BaneSea) { s.Trips = slices.Repeat(s.Trips[4:], api.BaneTrips) }},
		{"no wait", func(s *api.BaneSea) { s.Wait = 0 }},
		{"longest wait", func(s *api.BaneSea) { s.Wait = api.BaneWait }},
		{"first day", func(s *api.BaneSea) { s.Trips[0].Day = 0 }},
		{"last day", func(s *api.BaneSea) { s.Trips[4].Day = api.BaneDays }},
		{"free", func(s *api.BaneSea) { s.Trips[0].Cost = 0 }},
		{"dearest", func(s *api.BaneSea) { s.Trips[4].Cost = api.BaneCost }},
		{"from the last islet to the first one", func(s *api.BaneSea) { s.Trips[0].From, s.Trips[0].To = 3, 0 }},
	}
}

// badSeas are changes that leave the chapter's sea not as defined, each in one place only.
func badSeas() []seaChange {
	all := []seaChange{
		{"zero value", func(s *api.BaneSea) { *s = api.BaneSea{} }},
		{"no islets", func(s *api.BaneSea) { s.Islets = 0; s.Infested, s.Clean, s.Trips = nil, nil, nil }},
		{"islets below", func(s *api.BaneSea) { s.Islets = -1 }},
		{"islets", func(s *api.BaneSea) { s.Islets = api.BaneIslets + 1 }},
		{"huge islets", func(s *api.BaneSea) { s.Islets = math.MaxInt }},
		{"an islet of trips and Clean is not there", func(s *api.BaneSea) { s.Islets = 3 }},
		{"trips", func(s *api.BaneSea) { s.Trips = slices.Repeat(s.Trips[:1], api.BaneTrips+1) }},
		{"wait below", func(s *api.BaneSea) { s.Wait = -1 }},
		{"wait above", func(s *api.BaneSea) { s.Wait = api.BaneWait + 1 }},
		{"tiny wait", func(s *api.BaneSea) { s.Wait = math.MinInt }},
		{"huge wait", func(s *api.BaneSea) { s.Wait = math.MaxInt }},
	}
	for _, list := range badLists(4) {
		all = append(all, seaChange{"infested", func(s *api.BaneSea) { s.Infested = list }}, seaChange{"clean", func(s *api.BaneSea) { s.Clean = list }})
	}
	for trip := range 5 {
		all = append(all, badTrips(trip)...)
	}
	return all
}

func badTrips(k int) []seaChange {
	return []seaChange{
		{"day below", func(s *api.BaneSea) { s.Trips[k].Day = -1 }},
		{"day above", func(s *api.BaneSea) { s.Trips[k].Day = api.BaneDays + 1 }},
		{"from below", func(s *api.BaneSea) { s.Trips[k].From = -1 }},
		{"from above", func(s *api.BaneSea) { s.Trips[k].From = 4 }},
		{"to below", func(s *api.BaneSea) { s.Trips[k].To = -1 }},
		{"to above", func(s *api.BaneSea) { s.Trips[k].To = 4 }},
		{"to where it comes from", func(s *api.BaneSea) { s.Trips[k].To = s.Trips[k].From }},
		{"cost below", func(s *api.BaneSea) { s.Trips[k].Cost = -1 }},
		{"cost above", func(s *api.BaneSea) { s.Trips[k].Cost = api.BaneCost + 1 }},
		{"tiny", func(s *api.BaneSea) { s.Trips[k].Day = math.MinInt }},
		{"huge", func(s *api.BaneSea) { s.Trips[k].Cost = math.MaxInt }},
	}
}

// P4.4: what CheckSea returns.
func TestCheckSea(t *testing.T) {
	for _, x := range goodSeas() {
		s := chapterSea()
		x.change(&s)
		if e := bane.CheckSea(s); e != api.OK {
			t.Errorf("%s: %v", x.name, e)
		}
		catches(t, s, nil)
	}
	for _, x := range badSeas() {
		s := chapterSea()
		x.change(&s)
		if e := bane.CheckSea(s); e != api.ErrArg {
			t.Errorf("%s: %v %v", x.name, s, e)
		}
	}
}

// P4.4 and P4.5: no function takes a sea that CheckSea's section does not allow.
func TestBadSeas(t *testing.T) {
	for _, x := range badSeas() {
		s := chapterSea()
		x.change(&s)
		wantSeaArg(t, x.name, s, nil, 0, make([]bool, len(s.Trips)))
		if l, c, e := bane.Guards(s); e != api.ErrArg || len(l) != 0 || c != 0 {
			t.Errorf("%s: Guards: %v %v %v", x.name, l, c, e)
		}
		if n, e := bane.Hold(s); e != api.ErrArg || n != 0 {
			t.Errorf("%s: Hold: %v %v", x.name, n, e)
		}
	}
}

// wantSeaArg asks for ErrArg, with zero values, of all that takes guards.
func wantSeaArg(t *testing.T, name string, s api.BaneSea, guards []int, islet int, carries []bool) {
	t.Helper()
	if l, e := bane.Catches(s, guards); e != api.ErrArg || len(l) != 0 {
		t.Errorf("%s %v: Catches: %v %v", name, guards, l, e)
	}
	if l, e := bane.Spread(s, guards, carries); e != api.ErrArg || len(l) != 0 {
		t.Errorf("%s %v: Spread: %v %v", name, guards, l, e)
	}
	if l, e := bane.Path(s, guards, islet); e != api.ErrArg || len(l) != 0 {
		t.Errorf("%s %v: Path: %v %v", name, guards, l, e)
	}
}

// P4.4: guards, islets and carries that are not as defined.
func TestBadGuards(t *testing.T) {
	for _, guards := range badLists(5) {
		wantSeaArg(t, "guards", chapterSea(), guards, 3, make([]bool, 5))
	}
	for _, islet := range []int{-1, 4, 64, math.MinInt, math.MaxInt} {
		if l, e := bane.Path(chapterSea(), nil, islet); e != api.ErrArg || len(l) != 0 {
			t.Error(islet, l, e)
		}
		if l, e := bane.Path(chapterSea(), []int{0, 4}, islet); e != api.ErrArg || len(l) != 0 {
			t.Error(islet, l, e)
		}
	}
	for _, trips := range []int{0, 4, 6, 100} {
		if l, e := bane.Spread(chapterSea(), nil, make([]bool, trips)); e != api.ErrArg || len(l) != 0 {
			t.Error(trips, l, e)
		}
	}
	if l, e := bane.Spread(chapterSea(), nil, nil); e != api.ErrArg || len(l) != 0 {
		t.Error(l, e)
	}
	if l, e := bane.Spread(api.BaneSea{Islets: 1}, nil, []bool{true}); e != api.ErrArg || len(l) != 0 {
		t.Error(l, e)
	}
}

// R4 and R8: equal calls have equal results, whatever was done to the results of others, and leave their arguments as they are.
func TestRepeatedWebs(t *testing.T) {
	r := rand.New(rand.NewSource(64))
	for range 300 {
		w := anyWeb(r)
		x, menu, tests := randomTruth(r, w), randomSet(r, len(w.Fish), 2), randomSet(r, len(w.Fish), 2)
		oldWeb, oldTruth, oldMenu, oldTests := cloneWeb(w), cloneTruth(x), slices.Clone(menu), slices.Clone(tests)
		first := toldOfWeb(w, x, menu, tests)
		if again := toldOfWeb(w, x, menu, tests); !slices.Equal(first, again) {
			t.Fatal(w, x, menu, tests, first, again)
		}
		if !sameWeb(w, oldWeb) || !sameTruth(x, oldTruth) || !slices.Equal(menu, oldMenu) || !slices.Equal(tests, oldTests) {
			t.Fatal("changed", w, x, menu, tests)
		}
	}
}

// toldOfWeb returns all that is told of a web, as numbers, and spoils the lists in which it was told.
func toldOfWeb(w api.BaneWeb, x api.BaneTruth, menu, tests []int) []int {
	spans, e1 := bane.Levels(w)
	played, e2 := bane.Play(w, x)
	worst, e3 := bane.Worst(w, len(w.Fish)-1)
	is, e4 := bane.Suffice(w, menu, tests)
	best, cost, e5 := bane.Tests(w, menu)
	told := []int{int(e1), int(e2), int(e3), int(e4), int(e5), cost, 0}
	if is {
		told[6] = 1
	}
	for _, s := range spans {
		told = append(told, s.Low, s.High)
	}
	clear(spans)
	return spoil(told, played, worst, best)
}

// spoil appends lists to what is told, and clears them.
func spoil(told []int, lists ...[]int) []int {
	for _, list := range lists {
		told = append(told, len(list))
		told = append(told, list...)
		clear(list)
	}
	return told
}

func TestRepeatedSeas(t *testing.T) {
	r := rand.New(rand.NewSource(65))
	for range 300 {
		s := randomSea(r)
		guards, carries := randomSet(r, len(s.Trips), 4), randomCarries(r, s)
		oldSea, oldGuards, oldCarries := cloneSea(s), slices.Clone(guards), slices.Clone(carries)
		first := toldOfSea(s, guards, carries)
		if again := toldOfSea(s, guards, carries); !slices.Equal(first, again) {
			t.Fatal(s, guards, carries, first, again)
		}
		if !sameSea(s, oldSea) || !slices.Equal(guards, oldGuards) || !slices.Equal(carries, oldCarries) {
			t.Fatal("changed", s, guards, carries)
		}
	}
}

// toldOfSea returns all that is told of a sea, as numbers, and spoils the lists in which it was told.
func toldOfSea(s api.BaneSea, guards []int, carries []bool) []int {
	can, e1 := bane.Catches(s, guards)
	does, e2 := bane.Spread(s, guards, carries)
	best, cost, e3 := bane.Guards(s)
	wait, e4 := bane.Hold(s)
	told := spoil([]int{int(e1), int(e2), int(e3), int(e4), cost, wait}, can, does, best)
	for islet := range s.Islets {
		path, e := bane.Path(s, guards, islet)
		told = spoil(append(told, int(e)), path)
	}
	return told
}

// P0.1: whatever the arguments are, the functions return, and all refuse what Check refuses.
func TestAnyWeb(t *testing.T) {
	numbers := []int{math.MinInt, -1, 0, 1, 2, 7, 63, 64, 1000, 1001, api.BaneLevel, math.MaxInt}
	fields := func(w *api.BaneWeb, x *api.BaneTruth, list []int) []*int {
		f := &w.Fish[2]
		return []*int{
			&w.Limit, &f.Base.Low, &f.Base.High, &f.Bites[0].Prey, &f.Bites[1].Prey, &f.Bites[0].Share.Low, &f.Bites[0].Share.High, &f.Pass, &f.Cost,
			&x.Bases[2], &x.Shares[2][0], &list[0], &list[1],
		}
	}
	w, x, list := chapterWeb(), chapterTruth(), []int{0, 1}
	eachPair(numbers, len(fields(&w, &x, list)), func(a, b, u, v int) {
		w, x, list = chapterWeb(), chapterTruth(), []int{0, 1}
		all := fields(&w, &x, list)
		*all[a], *all[b] = u, v
		callWeb(t, w, x, list, v)
	})
	for n := range 10 {
		w = api.BaneWeb{Fish: make([]api.BaneFish, n)}
		x = api.BaneTruth{Bases: make([]int, n), Shares: make([][]int, 9-n)}
		callWeb(t, w, x, make([]int, n), n)
		callWeb(t, chapterWeb(), x, make([]int, n), n)
	}
}

// eachPair calls for each pair of some fields, and each pair of numbers.
func eachPair(numbers []int, fields int, call func(a, b, u, v int)) {
	for a := range fields {
		for b := range a + 1 {
			for _, u := range numbers {
				for _, v := range numbers {
					call(a, b, u, v)
				}
			}
		}
	}
}

func callWeb(t *testing.T, w api.BaneWeb, x api.BaneTruth, list []int, kind int) {
	t.Helper()
	e := bane.CheckWeb(w)
	_, e1 := bane.Levels(w)
	_, e2 := bane.Play(w, x)
	_, e3 := bane.Worst(w, kind)
	_, e4 := bane.Suffice(w, list, nil)
	_, e5 := bane.Suffice(w, nil, list)
	_, _, e6 := bane.Tests(w, list)
	if e != api.OK && (e != api.ErrArg || e1 != e || e2 != e || e3 != e || e4 != e || e5 != e || e6 != e) {
		t.Error(w, x, list, kind, e, e1, e2, e3, e4, e5, e6)
	}
	if e == api.OK && (e1 != e || e4 != e5 || e5 == api.ErrArg != (e6 == api.ErrArg)) {
		t.Error(w, list, e1, e4, e5, e6)
	}
}

// P0.1: the same of seas.
func TestAnySea(t *testing.T) {
	numbers := []int{math.MinInt, -1, 0, 1, 3, 4, 8, 9, 40, 63, 64, 401, math.MaxInt}
	fields := func(s *api.BaneSea, list []int) []*int {
		x := &s.Trips[4]
		return []*int{&s.Islets, &s.Infested[0], &s.Clean[0], &s.Wait, &x.Day, &x.From, &x.To, &x.Cost, &list[0], &list[1]}
	}
	s, list := chapterSea(), []int{0, 1}
	eachPair(numbers, len(fields(&s, list)), func(a, b, u, v int) {
		s, list = chapterSea(), []int{0, 1}
		all := fields(&s, list)
		*all[a], *all[b] = u, v
		callSea(t, s, list, make([]bool, 5), v)
	})
	for n := range 12 {
		s = api.BaneSea{Islets: n, Infested: make([]int, n), Clean: make([]int, 11-n), Trips: make([]api.BaneTrip, n), Wait: n}
		callSea(t, s, make([]int, n), make([]bool, n), n)
		callSea(t, chapterSea(), make([]int, n), make([]bool, n), n)
	}
}

func callSea(t *testing.T, s api.BaneSea, list []int, carries []bool, islet int) {
	t.Helper()
	e := bane.CheckSea(s)
	_, e1 := bane.Catches(s, list)
	_, e2 := bane.Spread(s, list, carries)
	_, e3 := bane.Path(s, list, islet)
	_, _, e4 := bane.Guards(s)
	_, e5 := bane.Hold(s)
	if e != api.OK && (e != api.ErrArg || e1 != e || e2 != e || e3 != e || e4 != e || e5 != e) {
		t.Error(s, list, carries, islet, e, e1, e2, e3, e4, e5)
	}
	if e == api.OK && (e4 == api.ErrArg || e5 == api.ErrArg || e1 != api.OK && (e2 != api.ErrArg || e3 != api.ErrArg)) {
		t.Error(s, list, carries, islet, e1, e2, e3, e4, e5)
	}
}
