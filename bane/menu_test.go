package bane_test

import (
	"math/rand"
	"slices"
	"testing"

	"motu/api"
	"motu/bane"
)

// P4.3: the chapter's examples, and webs near it.
func TestSuffice(t *testing.T) {
	limit := func(n int) func(*api.BaneWeb) { return func(w *api.BaneWeb) { w.Limit = n } }
	as := func(w *api.BaneWeb) {}
	for _, x := range []struct {
		name        string
		change      func(*api.BaneWeb)
		menu, tests []int
		want        bool
	}{
		{"chapter's first", as, []int{1}, []int{0}, true},
		{"chapter's second", as, []int{2}, []int{0, 1}, false},
		{"nothing tested", as, []int{1}, nil, false},
		{"just the limit", as, []int{0}, nil, true},
		{"just above the limit", limit(199), []int{0}, nil, false},
		{"just the limit with a test", limit(170), []int{1}, []int{0}, true},
		{"just above it with a test", limit(169), []int{1}, []int{0}, false},
		{"down a chain", limit(220), []int{2}, []int{0}, true},
		{"just not down a chain", limit(219), []int{2}, []int{0}, false},
		{"a test of another kind", as, []int{1}, []int{2}, false},
		{"what it eats is tested, and it is, too", as, []int{2}, []int{0, 1, 2}, true},
		{"a test that lets more pass", func(w *api.BaneWeb) { w.Fish[0].Pass = 999 }, []int{1}, []int{0}, false},
		{"all kinds", as, []int{0, 1, 2}, []int{0, 2}, true},
		{"all kinds but one", as, []int{0, 1, 2}, []int{2}, false},
		{"no menu", limit(0), nil, nil, true},
		{"no menu, empty lists", limit(0), []int{}, []int{}, true},
		{"no menu, with tests", limit(0), nil, []int{0, 1, 2}, true},
		{"no poison may be there", limit(0), []int{0}, []int{0}, false},
		{"no poison is there", func(w *api.BaneWeb) { w.Limit, w.Fish[0].Pass = 0, 0 }, []int{0}, []int{0}, true},
	} {
		w := chapterWeb()
		x.change(&w)
		if is, e := bane.Suffice(w, x.menu, x.tests); e != api.OK || is != x.want {
			t.Errorf("%s: %v %v", x.name, is, e)
		}
	}
}

// P4.3: against the section's words, for any web.
func TestSufficeRandom(t *testing.T) {
	r := rand.New(rand.NewSource(54))
	seen := map[bool]int{}
	for range 5000 {
		w := anyWeb(r)
		menu, tests := randomSet(r, len(w.Fish), 3), randomSet(r, len(w.Fish), 2)
		want := plainSuffice(w, menu, tests)
		if is, e := bane.Suffice(w, menu, tests); e != api.OK || is != want {
			t.Fatal(w, menu, tests, is, e)
		}
		seen[want]++
	}
	if seen[true] < 500 || seen[false] < 500 {
		t.Error(seen)
	}
}

// passes reports whether all tests pass of fish with these levels.
func passes(w api.BaneWeb, tests, levels []int) bool {
	return !slices.ContainsFunc(tests, func(kind int) bool { return levels[kind] > w.Fish[kind].Pass })
}

// P4.3: if tests suffice, and all pass, no kind of the menu has a level above the limit, whatever is true.
func TestSufficeHolds(t *testing.T) {
	r := rand.New(rand.NewSource(55))
	seen := 0
	for range 400 {
		w := randomWeb(r, 1+r.Intn(3), 4)
		menu, tests := randomSet(r, len(w.Fish), 2), randomSet(r, len(w.Fish), 2)
		if is, _ := bane.Suffice(w, menu, tests); !is {
			continue
		}
		plainTruths(w, func(x api.BaneTruth) {
			var levels []int
			for kind := range w.Fish {
				levels = append(levels, plainLevel(w, x, nil, kind))
			}
			if !passes(w, tests, levels) {
				return
			}
			seen++
			for _, kind := range menu {
				if levels[kind] > w.Limit {
					t.Fatal(w, menu, tests, x, levels)
				}
			}
		})
	}
	if seen < 1000 {
		t.Error(seen)
	}
}

// P4.3: the chapter's examples, webs near it, and the first ones of several.
func TestTests(t *testing.T) {
	costs := func(a, b, c int) func(*api.BaneWeb) {
		return func(w *api.BaneWeb) { w.Fish[0].Cost, w.Fish[1].Cost, w.Fish[2].Cost = a, b, c }
	}
	as := func(w *api.BaneWeb) {}
	for _, x := range []struct {
		name   string
		change func(*api.BaneWeb)
		menu   []int
		want   []int
		cost   int
		e      api.Errno
	}{
		{"chapter's first", as, []int{1}, []int{0}, 10, api.OK},
		{"chapter's second", as, []int{2}, []int{2}, 30, api.OK},
		{"chapter's third", as, []int{1, 2}, []int{0, 2}, 40, api.OK},
		{"chapter's fourth", as, []int{0}, nil, 0, api.OK},
		{"no menu", as, nil, nil, 0, api.OK},
		{"empty menu", as, []int{}, nil, 0, api.OK},
		{"all kinds", as, []int{0, 1, 2}, []int{0, 2}, 40, api.OK},
		{"the kind itself is cheaper", costs(20, 10, 30), []int{1}, []int{1}, 10, api.OK},
		{"as cheap: the first one", costs(20, 20, 30), []int{1}, []int{0}, 20, api.OK},
		{"as cheap: fewer", func(w *api.BaneWeb) { costs(10, 10, 20)(w); w.Fish[1].Pass = 150 }, []int{2}, []int{2}, 20, api.OK},
		{"cheaper: more", func(w *api.BaneWeb) { costs(10, 9, 20)(w); w.Fish[1].Pass = 150 }, []int{2}, []int{0, 1}, 19, api.OK},
		{"free: fewer", costs(0, 0, 0), []int{1, 2}, []int{0, 2}, 0, api.OK},
		{"free, but nothing is needed", costs(0, 0, 0), []int{0}, nil, 0, api.OK},
		{"one is free, and does not help", costs(10, 20, 0), []int{1}, []int{0}, 10, api.OK},
		{"just the limit", func(w *api.BaneWeb) { w.Limit = 220 }, []int{2}, []int{0}, 10, api.OK},
		{"just above the limit", func(w *api.BaneWeb) { w.Limit = 219 }, []int{2}, []int{2}, 30, api.OK},
		{"one test is for all", func(w *api.BaneWeb) { w.Fish[0].Pass = 100 }, []int{1, 2}, []int{0}, 10, api.OK},
		{"one of the menu stays above the limit", func(w *api.BaneWeb) { w.Limit = 150 }, []int{0, 1, 2}, nil, 0, api.ErrNone},
		{"just not above it", func(w *api.BaneWeb) { w.Limit = 170 }, []int{0, 1, 2}, []int{0, 2}, 40, api.OK},
		{"any pass is too much", func(w *api.BaneWeb) { w.Limit = 149 }, []int{2}, nil, 0, api.ErrNone},
		{"dearest", costs(api.BaneCost, api.BaneCost, api.BaneCost), []int{1, 2}, []int{0, 2}, 2 * api.BaneCost, api.OK},
	} {
		w := chapterWeb()
		x.change(&w)
		if l, c, e := bane.Tests(w, x.menu); e != x.e || c != x.cost || !slices.Equal(l, x.want) {
			t.Errorf("%s: %v %v %v", x.name, l, c, e)
		}
	}
}

// P4.3: best tests against all tests.
func TestTestsRandom(t *testing.T) {
	r := rand.New(rand.NewSource(56))
	seen := map[int]int{}
	for range 3000 {
		w := anyWeb(r)
		menu := randomSet(r, len(w.Fish), 2)
		if r.Intn(2) == 0 { // so that some tests suffice
			for k := range w.Fish {
				w.Fish[k].Pass = min(w.Fish[k].Pass, w.Limit)
			}
		}
		want, cost, found := plainBest(fishCosts(w), func(tests []int) bool { return plainSuffice(w, menu, tests) })
		l, c, e := bane.Tests(w, menu)
		if !slices.Equal(l, want) || c != cost || found != (e == api.OK) || !found && e != api.ErrNone {
			t.Fatal(w, menu, l, c, e, want, cost, found)
		}
		if !found {
			seen[-1]++
			continue
		}
		seen[len(l)]++
		if is, e := bane.Suffice(w, menu, l); !is || e != api.OK {
			t.Fatal(w, menu, l, is, e)
		}
	}
	for _, count := range []int{-1, 0, 1, 2, 3} {
		if seen[count] < 40 {
			t.Error(seen)
		}
	}
}

// P4.3: no tests that somebody proposes, and that suffice, are cheaper.
func TestTestsProposed(t *testing.T) {
	r := rand.New(rand.NewSource(57))
	for range 1000 {
		w := anyWeb(r)
		menu := randomSet(r, len(w.Fish), 2)
		_, cost, e := bane.Tests(w, menu)
		for range 10 {
			tests := randomSet(r, len(w.Fish), 2)
			if is, _ := bane.Suffice(w, menu, tests); is && (e != api.OK || plainCost(fishCosts(w), tests) < cost) {
				t.Fatal(w, menu, tests, cost, e)
			}
		}
	}
}
