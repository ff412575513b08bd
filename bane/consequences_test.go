package bane_test

import (
	"math/rand"
	"slices"
	"testing"

	"motu/api"
	"motu/bane"
)

func cut(r *rand.Rand, s api.Span) api.Span {
	low := within(r, s)
	return span(low, within(r, span(low, s.High)))
}

// knownBetter returns a web with some shorter spans.
func knownBetter(r *rand.Rand, w api.BaneWeb) api.BaneWeb {
	w = cloneWeb(w)
	for kind := range w.Fish {
		f := &w.Fish[kind]
		if r.Intn(2) == 0 {
			f.Base = cut(r, f.Base)
		}
		for k := range f.Bites {
			if r.Intn(2) == 0 {
				f.Bites[k].Share = cut(r, f.Bites[k].Share)
			}
		}
	}
	return w
}

// P4.6: what is known better never widens levels, nor makes the best tests dearer.
func TestKnownBetter(t *testing.T) {
	r := rand.New(rand.NewSource(66))
	narrower := 0
	for range 3000 {
		w := anyWeb(r)
		better := knownBetter(r, w)
		wide, narrow := levels(t, w), levels(t, better)
		for kind := range wide {
			if narrow[kind].Low < wide[kind].Low || narrow[kind].High > wide[kind].High {
				t.Fatal(w, better, wide, narrow)
			}
		}
		if !slices.Equal(wide, narrow) {
			narrower++
		}
		menu := randomSet(r, len(w.Fish), 2)
		_, cost, e := bane.Tests(w, menu)
		if _, less, e2 := bane.Tests(better, menu); e == api.OK && (e2 != e || less > cost) {
			t.Fatal(w, better, menu, cost, less, e2)
		}
	}
	if narrower < 1000 {
		t.Error(narrower)
	}
}

// withOne returns a list with one more number below some count, in its place.
func withOne(r *rand.Rand, list []int, count int) []int {
	list = append(slices.Clone(list), r.Intn(count))
	slices.Sort(list)
	return slices.Compact(list)
}

// P4.6: a test more never makes tests insufficient.
func TestOneTestMore(t *testing.T) {
	r := rand.New(rand.NewSource(67))
	seen := map[bool]int{}
	for range 5000 {
		w := anyWeb(r)
		menu, tests := randomSet(r, len(w.Fish), 3), randomSet(r, len(w.Fish), 3)
		is, e := bane.Suffice(w, menu, tests)
		more, e2 := bane.Suffice(w, menu, withOne(r, tests, len(w.Fish)))
		if e != api.OK || e2 != api.OK || is && !more {
			t.Fatal(w, menu, tests, is, e, more, e2)
		}
		if !is {
			seen[more]++
		}
	}
	if seen[true] < 50 || seen[false] < 50 {
		t.Error(seen)
	}
}

// wantLater asks whether no islet can catch beetles earlier than before.
func wantLater(t *testing.T, s api.BaneSea, before, after []int) bool {
	t.Helper()
	for k, day := range after {
		if day >= 0 && (before[k] < 0 || day < before[k]) {
			t.Fatal(s, before, after)
		}
	}
	return !slices.Equal(before, after)
}

// P4.6: a guard more, a trip less, and a longer wait never make an islet catch beetles earlier.
func TestNeverEarlier(t *testing.T) {
	r := rand.New(rand.NewSource(68))
	var later [3]int
	for range 5000 {
		s := randomSea(r)
		if len(s.Trips) == 0 {
			continue
		}
		guards := randomSet(r, len(s.Trips), 5)
		before := catches(t, s, guards)
		if wantLater(t, s, before, catches(t, s, withOne(r, guards, len(s.Trips)))) {
			later[0]++
		}
		trip := r.Intn(len(s.Trips))
		less := cloneSea(s)
		less.Trips = slices.Delete(less.Trips, trip, trip+1)
		if wantLater(t, s, catches(t, s, nil), catches(t, less, nil)) {
			later[1]++
		}
		longer := cloneSea(s)
		longer.Wait += 1 + r.Intn(5)
		if wantLater(t, s, before, catches(t, longer, guards)) {
			later[2]++
		}
	}
	if slices.Min(later[:]) < 200 {
		t.Error(later)
	}
}
