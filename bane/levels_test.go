package bane_test

import (
	"math/rand"
	"slices"
	"testing"

	"motu/api"
	"motu/bane"
)

func levels(t *testing.T, w api.BaneWeb) []api.Span {
	t.Helper()
	l, e := bane.Levels(w)
	if e != api.OK || len(l) != len(w.Fish) {
		t.Fatal(w, l, e)
	}
	return l
}

func play(t *testing.T, w api.BaneWeb, x api.BaneTruth) []int {
	t.Helper()
	l, e := bane.Play(w, x)
	if e != api.OK || len(l) != len(w.Fish) {
		t.Fatal(w, x, l, e)
	}
	return l
}

// P4.1: the chapter's examples.
func TestLevelsExample(t *testing.T) {
	if l := levels(t, chapterWeb()); !slices.Equal(l, []api.Span{span(100, 200), span(50, 210), span(65, 270)}) {
		t.Error(l)
	}
	if l := play(t, chapterWeb(), chapterTruth()); !slices.Equal(l, []int{150, 110, 141}) {
		t.Error(l)
	}
}

// exactWeb returns a web of which all is known: bases, and for each kind the shares of its bites.
func exactWeb(bases []int, bites [][]api.BaneBite) api.BaneWeb {
	w := api.BaneWeb{Limit: 100}
	for kind, base := range bases {
		w.Fish = append(w.Fish, api.BaneFish{Base: exactly(base), Bites: bites[kind]})
	}
	return w
}

// P4.1: what comes from each bite is rounded down alone, tests do not matter, and levels grow above what a kind can take in by itself.
func TestLevelsSteps(t *testing.T) {
	const most = api.BaneLevel
	all := func(count int) []api.BaneBite {
		var bites []api.BaneBite
		for prey := range count {
			bites = append(bites, bite(prey, 1000, 1000))
		}
		return bites
	}
	for _, x := range []struct {
		name  string
		bases []int
		bites [][]api.BaneBite
		want  []int
	}{
		{"one kind", []int{7}, [][]api.BaneBite{nil}, []int{7}},
		{"no poison", []int{0, 0}, [][]api.BaneBite{nil, {bite(0, 1000, 1000)}}, []int{0, 0}},
		{"nothing comes", []int{999, 1}, [][]api.BaneBite{nil, {bite(0, 0, 0)}}, []int{999, 1}},
		{"just not one", []int{999, 0}, [][]api.BaneBite{nil, {bite(0, 1, 1)}}, []int{999, 0}},
		{"just one", []int{1000, 0}, [][]api.BaneBite{nil, {bite(0, 1, 1)}}, []int{1000, 1}},
		{"each alone", []int{3, 3, 0}, [][]api.BaneBite{nil, nil, {bite(0, 500, 500), bite(1, 500, 500)}}, []int{3, 3, 2}},
		{"each step", []int{3, 0, 0}, [][]api.BaneBite{nil, {bite(0, 500, 500)}, {bite(1, 500, 500)}}, []int{3, 1, 0}},
		{"shares go with their bites", []int{10, 100, 0}, [][]api.BaneBite{nil, nil, {bite(1, 200, 200), bite(0, 900, 900)}}, []int{10, 100, 29}},
		{"all of all", []int{most, most, most, most, most, most, most}, [][]api.BaneBite{nil, all(1), all(2), all(3), all(4), all(5), all(6)},
			[]int{most, 2 * most, 4 * most, 8 * most, 16 * most, 32 * most, 64 * most}},
	} {
		w := exactWeb(x.bases, x.bites)
		for kind, s := range levels(t, w) {
			if s != exactly(x.want[kind]) {
				t.Errorf("%s: level of %v: %v", x.name, kind, s)
			}
		}
		if l := play(t, w, endTruth(w, true)); !slices.Equal(l, x.want) {
			t.Errorf("%s: %v", x.name, l)
		}
	}
}

// P4.1: levels of small webs against all their truths.
func TestLevelsAllTruths(t *testing.T) {
	r := rand.New(rand.NewSource(51))
	for range 300 {
		w := randomWeb(r, 1+r.Intn(3), 4)
		want := make([]api.Span, len(w.Fish))
		first := true
		plainTruths(w, func(x api.BaneTruth) {
			for kind := range w.Fish {
				n := plainLevel(w, x, nil, kind)
				if first {
					want[kind] = exactly(n)
				}
				want[kind] = span(min(want[kind].Low, n), max(want[kind].High, n))
			}
			first = false
		})
		if l := levels(t, w); !slices.Equal(l, want) {
			t.Fatal(w, l, want)
		}
	}
}

// P4.1: whatever is true of any web, levels lie within what is told, and are as the section says; both ends are true.
func TestLevelsRandomTruths(t *testing.T) {
	r := rand.New(rand.NewSource(52))
	for range 2000 {
		w := anyWeb(r)
		told := levels(t, w)
		least, greatest := play(t, w, endTruth(w, false)), play(t, w, endTruth(w, true))
		for kind, s := range told {
			if s.Low != least[kind] || s.High != greatest[kind] {
				t.Fatal(w, told, least, greatest)
			}
		}
		for range 5 {
			x := randomTruth(r, w)
			for kind, n := range play(t, w, x) {
				if n < told[kind].Low || n > told[kind].High || n != plainLevel(w, x, nil, kind) {
					t.Fatal(w, x, kind, n, told)
				}
			}
		}
	}
}

// P4.1: truths that are not as defined.
func TestBadTruths(t *testing.T) {
	for name, change := range map[string]func(*api.BaneTruth){
		"zero value":          func(x *api.BaneTruth) { *x = api.BaneTruth{} },
		"no bases":            func(x *api.BaneTruth) { x.Bases = nil },
		"no shares":           func(x *api.BaneTruth) { x.Shares = nil },
		"too few bases":       func(x *api.BaneTruth) { x.Bases = x.Bases[:2] },
		"too many bases":      func(x *api.BaneTruth) { x.Bases = append(x.Bases, 0) },
		"too few lists":       func(x *api.BaneTruth) { x.Shares = x.Shares[:2] },
		"too many lists":      func(x *api.BaneTruth) { x.Shares = append(x.Shares, nil) },
		"first base below":    func(x *api.BaneTruth) { x.Bases[0] = 99 },
		"first base above":    func(x *api.BaneTruth) { x.Bases[0] = 201 },
		"last base below":     func(x *api.BaneTruth) { x.Bases[2] = 9 },
		"last base above":     func(x *api.BaneTruth) { x.Bases[2] = 21 },
		"a share of no bite":  func(x *api.BaneTruth) { x.Shares[0] = []int{0} },
		"a bite of no share":  func(x *api.BaneTruth) { x.Shares[1] = nil },
		"too few shares":      func(x *api.BaneTruth) { x.Shares[2] = x.Shares[2][:1] },
		"too many shares":     func(x *api.BaneTruth) { x.Shares[2] = append(x.Shares[2], 150) },
		"first share below":   func(x *api.BaneTruth) { x.Shares[1][0] = 499 },
		"first share above":   func(x *api.BaneTruth) { x.Shares[1][0] = 801 },
		"last share below":    func(x *api.BaneTruth) { x.Shares[2][1] = 99 },
		"last share above":    func(x *api.BaneTruth) { x.Shares[2][1] = 201 },
		"shares changed over": func(x *api.BaneTruth) { x.Shares[2] = []int{150, 950} },
	} {
		x := chapterTruth()
		change(&x)
		if l, e := bane.Play(chapterWeb(), x); e != api.ErrArg || len(l) != 0 {
			t.Errorf("%s: %v %v", name, l, e)
		}
	}
	for name, change := range map[string]func(*api.BaneTruth){
		"least":        func(x *api.BaneTruth) { *x = endTruth(chapterWeb(), false) },
		"greatest":     func(x *api.BaneTruth) { *x = endTruth(chapterWeb(), true) },
		"empty shares": func(x *api.BaneTruth) { x.Shares[0] = []int{} },
	} {
		x := chapterTruth()
		change(&x)
		if l, e := bane.Play(chapterWeb(), x); e != api.OK || len(l) != 3 {
			t.Errorf("%s: %v %v", name, l, e)
		}
	}
}

// P4.2: the chapter's examples, and webs near it.
func TestWorst(t *testing.T) {
	for _, x := range []struct {
		name   string
		change func(*api.BaneWeb)
		fish   int
		want   []int
	}{
		{"chapter's first", func(w *api.BaneWeb) {}, 2, []int{2, 1, 0}},
		{"chapter's second", func(w *api.BaneWeb) {}, 0, []int{0}},
		{"between", func(w *api.BaneWeb) {}, 1, []int{1, 0}},
		{"by the greatest share", func(w *api.BaneWeb) { w.Fish[2].Bites = []api.BaneBite{bite(1, 900, 900), bite(0, 0, 1000)} }, 2, []int{2, 0}},
		{"by the greatest level", func(w *api.BaneWeb) { w.Fish[2].Bites = []api.BaneBite{bite(1, 0, 500), bite(0, 500, 500)} }, 2, []int{2, 1, 0}},
		{"as much, the first bite", func(w *api.BaneWeb) { w.Fish[2].Bites = []api.BaneBite{bite(0, 0, 525), bite(1, 0, 500)} }, 2, []int{2, 0}},
		{"as much, the other way round", func(w *api.BaneWeb) { w.Fish[2].Bites = []api.BaneBite{bite(1, 0, 500), bite(0, 0, 525)} }, 2, []int{2, 1, 0}},
		{"as much if rounded", func(w *api.BaneWeb) { w.Fish[2].Bites = []api.BaneBite{bite(0, 0, 525), bite(1, 0, 504)} }, 2, []int{2, 0}},
		{"just more if rounded", func(w *api.BaneWeb) { w.Fish[2].Bites = []api.BaneBite{bite(0, 0, 525), bite(1, 0, 505)} }, 2, []int{2, 1, 0}},
		{"nothing comes", func(w *api.BaneWeb) { w.Fish[2].Bites = []api.BaneBite{bite(1, 0, 0), bite(0, 0, 0)} }, 2, []int{2, 1, 0}},
		{"no poison at all", func(w *api.BaneWeb) { w.Fish[0].Base, w.Fish[1].Base = exactly(0), exactly(0) }, 2, []int{2, 1, 0}},
		{"tests do not matter", func(w *api.BaneWeb) { w.Fish[1].Pass = 0 }, 2, []int{2, 1, 0}},
		{"what a kind takes in by itself does not matter", func(w *api.BaneWeb) { w.Fish[2].Base = exactly(9999) }, 2, []int{2, 1, 0}},
		{"no bites", func(w *api.BaneWeb) { w.Fish[2].Bites = nil }, 2, []int{2}},
		{"no bites, and empty", func(w *api.BaneWeb) { w.Fish[2].Bites = []api.BaneBite{} }, 2, []int{2}},
	} {
		w := chapterWeb()
		x.change(&w)
		if l, e := bane.Worst(w, x.fish); e != api.OK || !slices.Equal(l, x.want) {
			t.Errorf("%s: %v %v", x.name, l, e)
		}
	}
}

// P4.2: chains of any web: each kind eats the next one, more does not come from any other of its preys, and as much not from one that is bitten before.
func TestWorstRandom(t *testing.T) {
	r := rand.New(rand.NewSource(53))
	longest := 0
	for range 3000 {
		w := anyWeb(r)
		for fish := range w.Fish {
			chain, e := bane.Worst(w, fish)
			if e != api.OK || len(chain) == 0 || chain[0] != fish || len(w.Fish[chain[len(chain)-1]].Bites) > 0 {
				t.Fatal(w, fish, chain, e)
			}
			for k := 1; k < len(chain); k++ {
				wantWorst(t, w, chain[k-1], chain[k])
			}
			longest = max(longest, len(chain))
		}
	}
	if longest < 5 {
		t.Error("only short chains:", longest)
	}
}

// wantWorst asks whether a prey is the first one of those from which most comes into a kind.
func wantWorst(t *testing.T, w api.BaneWeb, kind, prey int) {
	t.Helper()
	bites := w.Fish[kind].Bites
	comes := make([]int, len(bites))
	at := -1
	for k, x := range bites {
		comes[k] = x.Share.High * plainLevel(w, endTruth(w, true), nil, x.Prey) / 1000
		if x.Prey == prey {
			at = k
		}
	}
	if at < 0 {
		t.Fatal(w, kind, "does not eat", prey)
	}
	for k, n := range comes {
		if n > comes[at] || n == comes[at] && k < at {
			t.Fatal(w, kind, prey, comes)
		}
	}
}
