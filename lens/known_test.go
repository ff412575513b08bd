package lens_test

import (
	"math/rand"
	"slices"
	"testing"

	"motu/api"
	"motu/lens"
)

func known(t *testing.T, i api.LensIslet, tanks int) []api.LensKnown {
	t.Helper()
	k, e := lens.Known(i, tanks)
	if e != api.OK || len(k) != len(i.Months) {
		t.Fatal(i, tanks, k, e)
	}
	return k
}

// P1.2: the chapter's example, and islets near it.
func TestKnownExamples(t *testing.T) {
	if k := known(t, chapterIslet(), 12); !slices.Equal(k, []api.LensKnown{{Tanks: span(70, 80), Lens: span(360, 950)}, {Tanks: span(20, 70), Lens: span(324, 950)}, {Tanks: span(0, 60), Lens: span(481, 950)}}) {
		t.Error(k)
	}
	i := chapterIslet()
	i.Most = 0 // whatever Row is, no month can be dry
	if k := known(t, i, 0); !slices.Equal(k, []api.LensKnown{{Lens: span(600, 920), Lack: span(10, 20)}, {Lens: span(780, 920), Lack: span(10, 20)}, {Lens: span(870, 920), Lack: span(10, 20)}}) {
		t.Error(k)
	}
	i = chapterIslet()
	i.Row = 0 // whatever Most is
	j := i
	j.Most = 0
	if k := known(t, i, 12); !slices.Equal(k, known(t, j, 12)) {
		t.Error(k)
	}
}

// plainKnown goes through truths one by one.
func plainKnown(i api.LensIslet, tanks int) []api.LensKnown {
	known := make([]api.LensKnown, len(i.Months))
	first := true
	for _, dry := range plainDroughts(i) {
		plainTruths(i, dry, func(t api.LensTruth) {
			plainPlay(i, tanks, t, func(m int, s api.LensSeen) {
				k := &known[m]
				for _, x := range []struct {
					s *api.Span
					n int
				}{{&k.Tanks, s.Tanks}, {&k.Lens, s.Lens}, {&k.Lack, s.Lack}} {
					if first || x.n < x.s.Low {
						x.s.Low = x.n
					}
					if first || x.n > x.s.High {
						x.s.High = x.n
					}
				}
			})
			first = false
		})
	}
	return known
}

// P1.2: each bound is one of some truth, and no truth lies outside.
func TestKnownAllTruths(t *testing.T) {
	r := rand.New(rand.NewSource(12))
	for c := range 400 {
		months := 1 + r.Intn(2)
		if c%40 == 0 {
			months = 3
		}
		i := randomIslet(r, months)
		tanks := r.Intn(8)
		old := cloneIslet(i)
		k := known(t, i, tanks)
		if want := plainKnown(i, tanks); !slices.Equal(k, want) {
			t.Fatal(i, tanks, k, want)
		}
		want := slices.Clone(k)
		clear(k)
		if !slices.Equal(known(t, i, tanks), want) || !sameIslet(i, old) {
			t.Fatal("changed", i, tanks)
		}
	}
}

// P1.2: in long runs, too, all truths lie within what is known.
func TestKnownRandomTruths(t *testing.T) {
	r := rand.New(rand.NewSource(13))
	for range 300 {
		i := randomIslet(r, 4+r.Intn(5))
		tanks := r.Intn(api.LensTanks + 1)
		k := known(t, i, tanks)
		droughts := plainDroughts(i)
		for range 60 {
			truth := randomTruth(r, i, droughts[r.Intn(len(droughts))])
			ends, _ := play(t, i, tanks, truth)
			for m, s := range ends {
				if !holds(k[m].Tanks, s.Tanks) || !holds(k[m].Lens, s.Lens) || !holds(k[m].Lack, s.Lack) {
					t.Fatal(i, tanks, truth, m, s, k[m])
				}
			}
		}
	}
}

func holds(s api.Span, n int) bool { return s.Low <= n && n <= s.High }

func inside(a, b api.Span) bool { return b.Low <= a.Low && a.High <= b.High }

// narrowed returns an islet that is known better: shorter spans, and fewer droughts.
func narrowed(r *rand.Rand, i api.LensIslet) api.LensIslet {
	cut := func(s api.Span) api.Span {
		low := within(r, s)
		return span(low, within(r, span(low, s.High)))
	}
	i = cloneIslet(i)
	i.Start, i.Soak, i.Leak = cut(i.Start), cut(i.Soak), cut(i.Leak)
	for m := range i.Months {
		x := &i.Months[m]
		x.Need = cut(x.Need)
		if wet, dry := cut(x.Wet), cut(x.Dry); dry.Low <= wet.Low && dry.High <= wet.High {
			x.Wet, x.Dry = wet, dry
		}
	}
	i.Most, i.Row = r.Intn(i.Most+1), r.Intn(i.Row+1)
	return i
}

// P1.6: an islet that is known better never has wider bounds, and goes wrong only where the other one does.
func TestKnownBetter(t *testing.T) {
	r := rand.New(rand.NewSource(16))
	for range 3000 {
		i := randomIslet(r, 1+r.Intn(6))
		j := narrowed(r, i)
		tanks := r.Intn(20)
		wide, narrow := known(t, i, tanks), known(t, j, tanks)
		for m := range wide {
			if !inside(narrow[m].Tanks, wide[m].Tanks) || !inside(narrow[m].Lens, wide[m].Lens) || !inside(narrow[m].Lack, wide[m].Lack) {
				t.Fatal(i, j, tanks, m, wide[m], narrow[m])
			}
		}
		f, e := lens.Fewest(i)
		g, e2 := lens.Fewest(j)
		if e == api.OK && (e2 != api.OK || g > f) {
			t.Fatal(i, j, f, g, e2)
		}
	}
}

// moreRain returns a truth with more rain than another one, and an islet to which both belong.
func moreRain(r *rand.Rand, i api.LensIslet, t api.LensTruth) (api.LensIslet, api.LensTruth) {
	i, t = cloneIslet(i), cloneTruth(t)
	for m := range t.Rains {
		t.Rains[m] += r.Intn(10)
		x := &i.Months[m]
		x.Wet.High = max(x.Wet.High, t.Rains[m])
		if t.Dry[m] {
			x.Dry.High = max(x.Dry.High, t.Rains[m])
		}
	}
	return i, t
}

// lessDry returns a truth with fewer dry months; those that are not dry any more have as much rain as there was, or more.
func lessDry(r *rand.Rand, i api.LensIslet, t api.LensTruth) api.LensTruth {
	t = cloneTruth(t)
	for m, dry := range t.Dry {
		if dry && r.Intn(2) == 0 {
			t.Dry[m] = false
			wet := i.Months[m].Wet
			t.Rains[m] = within(r, span(max(wet.Low, t.Rains[m]), wet.High))
		}
	}
	return t
}

// P1.6: more rain, and fewer dry months, never make less water at the end of a month, nor more lacking.
func TestMoreRain(t *testing.T) {
	r := rand.New(rand.NewSource(17))
	for range 10000 {
		i := randomIslet(r, 1+r.Intn(api.LensMonths))
		droughts := plainDroughts(i)
		tanks := r.Intn(20)
		truth := randomTruth(r, i, droughts[r.Intn(len(droughts))])
		ends, x := play(t, i, tanks, truth)
		j, more := moreRain(r, i, truth)
		noLess(t, ends, x, func() ([]api.LensSeen, api.LensLedger) { return play(t, j, tanks, more) })
		wetter := lessDry(r, i, truth)
		noLess(t, ends, x, func() ([]api.LensSeen, api.LensLedger) { return play(t, i, tanks, wetter) })
	}
}

func noLess(t *testing.T, ends []api.LensSeen, x api.LensLedger, other func() ([]api.LensSeen, api.LensLedger)) {
	t.Helper()
	better, y := other()
	for m := range ends {
		if better[m].Tanks < ends[m].Tanks || better[m].Lens < ends[m].Lens || better[m].Lack > ends[m].Lack {
			t.Fatal(m, ends, better)
		}
	}
	if y.Kept < x.Kept {
		t.Fatal(x, y)
	}
}
