package ship_test

import (
	"math/rand"
	"slices"
	"testing"

	"motu/api"
	"motu/ship"
)

// containsAll reports whether each of some hours is one of others.
func containsAll(hours, others []int) bool {
	for _, hour := range hours {
		if !slices.Contains(others, hour) {
			return false
		}
	}
	return true
}

// P6.7: less swell never closes an hour, nor makes calls later.
func TestLessSwell(t *testing.T) {
	r := rand.New(rand.NewSource(92))
	opened := 0
	for range 1000 {
		p := randomPass(r, 1+r.Intn(20))
		calm := clonePass(p)
		for day, swell := range p.Swell {
			calm.Swell[day].Low = r.Intn(swell.Low + 1)
			calm.Swell[day].High = within(r, span(calm.Swell[day].Low, swell.High))
		}
		for day, swell := range p.Swell {
			sure, perhaps := hours(t, p, day)
			calmSure, calmPerhaps := hours(t, calm, day)
			if !containsAll(sure, calmSure) || !containsAll(perhaps, calmPerhaps) {
				t.Fatal(p, calm, day)
			}
			opened += len(calmSure) - len(sure)
			c := call(day, r.Intn(24))
			for n := swell.Low; n < swell.High; n++ {
				if goes(t, p, c, n+1) && !goes(t, p, c, n) {
					t.Fatal(p, c, n)
				}
			}
		}
		gap, many := randomSpan(r, 1, 6, 6), 1+r.Intn(3)
		calls, e := ship.Calls(p, gap, many)
		calmCalls, e2 := ship.Calls(calm, gap, many)
		if e == api.OK && (e2 != api.OK || slices.CompareFunc(calmCalls, calls, compareCalls) > 0) {
			t.Fatal(p, calm, gap, many, calls, calmCalls)
		}
	}
	if opened < 1000 {
		t.Error(opened)
	}
}

// wantLater asks whether no kind is wanting earlier than before.
func wantLater(t *testing.T, before, after []int) bool {
	t.Helper()
	for kind, day := range after {
		if isEarlier(day, before[kind]) {
			t.Fatal(before, after)
		}
	}
	return !slices.Equal(before, after)
}

// wantLess asks the same of what can be, and of what surely has been.
func wantLess(t *testing.T, before, after []api.ShipWant) bool {
	t.Helper()
	for kind, w := range after {
		if isEarlier(w.May, before[kind].May) || isEarlier(w.Must, before[kind].Must) {
			t.Fatal(before, after)
		}
	}
	return !slices.Equal(before, after)
}

// P6.7: more stock never makes a kind wanting earlier, nor a ration smaller.
func TestMoreStock(t *testing.T) {
	r := rand.New(rand.NewSource(93))
	later := 0
	for range 2000 {
		s := anyStore(r)
		load, days := randomLoad(r, s), r.Intn(80)
		more := cloneStore(s)
		for kind := range more.Stock {
			more.Stock[kind] += r.Intn(10)
		}
		x := randomTruth(r, s, days)
		before, _ := play(t, s, load, days, x)
		after, _ := play(t, more, load, days, x)
		if wantLater(t, before, after) {
			later++
		}
		wantLess(t, want(t, s, load, days), want(t, more, load, days))
		for kind := range s.Stock {
			if ration(t, more, load, days, kind) < ration(t, s, load, days, kind) {
				t.Fatal(s, more, load, days, kind)
			}
		}
	}
	if later < 500 {
		t.Error(later)
	}
}

// sooner returns gaps with which each ship comes as early as with others, or earlier.
func sooner(r *rand.Rand, gap api.Span, gaps []int, days int) []int {
	var early []int
	sum := 0
	for _, n := range gaps {
		n = within(r, span(gap.Low, n))
		early = append(early, n)
		sum += n
	}
	for sum < days {
		n := within(r, gap)
		early = append(early, n)
		sum += n
	}
	return early
}

// P6.7: ships that come earlier never make a kind wanting earlier.
func TestEarlierShips(t *testing.T) {
	r := rand.New(rand.NewSource(94))
	later, less := 0, 0
	for range 3000 {
		s := anyStore(r)
		load, days := randomLoad(r, s), r.Intn(80)
		x := randomTruth(r, s, days)
		early := cloneTruth(x)
		early.Gaps = sooner(r, s.Gap, x.Gaps, days)
		before, _ := play(t, s, load, days, x)
		after, _ := play(t, s, load, days, early)
		if wantLater(t, before, after) {
			later++
		}
		frequent := cloneStore(s)
		frequent.Gap.Low = 1 + r.Intn(s.Gap.Low)
		frequent.Gap.High = within(r, span(frequent.Gap.Low, s.Gap.High))
		if wantLess(t, want(t, s, load, days), want(t, frequent, load, days)) {
			less++
		}
	}
	if later < 200 || less < 500 {
		t.Error(later, less)
	}
}
