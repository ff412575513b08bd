package bane_test

import (
	"math/rand"
	"slices"
	"testing"

	"motu/api"
	"motu/bane"
)

// P4.5: the chapter's examples, seas near it, and the first ones of several.
func TestGuards(t *testing.T) {
	costs := func(costs ...int) func(*api.BaneSea) {
		return func(s *api.BaneSea) {
			for k, n := range costs {
				s.Trips[k].Cost = n
			}
		}
	}
	for _, x := range []struct {
		name   string
		change func(*api.BaneSea)
		want   []int
		cost   int
		e      api.Errno
	}{
		{"chapter's", func(s *api.BaneSea) {}, []int{2}, 4, api.OK},
		{"as cheap: the first one", costs(5, 9, 5, 6, 7), []int{0}, 5, api.OK},
		{"the last one", costs(10, 9, 11, 6, 7), []int{3}, 6, api.OK},
		{"all are free: one", costs(0, 0, 0, 0, 0), []int{0}, 0, api.OK},
		{"two trips", func(s *api.BaneSea) { s.Wait = 1 }, []int{0, 3}, 11, api.OK},
		{"two trips, as cheap", func(s *api.BaneSea) { s.Wait = 1; costs(6, 6, 6, 6, 6)(s) }, []int{0, 3}, 12, api.OK},
		{"one for two, as cheap", func(s *api.BaneSea) { s.Wait, s.Clean = 1, []int{1, 3}; costs(6, 3, 1, 1, 1)(s) }, []int{0, 3}, 7, api.OK},
		{"fewer, as cheap", func(s *api.BaneSea) { s.Clean = []int{2}; costs(2, 9, 3, 9, 1)(s) }, []int{0, 4}, 3, api.OK},
		{"fewer, and free ones", func(s *api.BaneSea) { s.Trips[1].Cost, s.Trips[4].Cost = 0, 0 }, []int{2}, 4, api.OK},
		{"none must be clean", func(s *api.BaneSea) { s.Clean = nil }, nil, 0, api.OK},
		{"none must be clean, empty", func(s *api.BaneSea) { s.Clean = []int{} }, nil, 0, api.OK},
		{"none is infested", func(s *api.BaneSea) { s.Infested = nil }, nil, 0, api.OK},
		{"no trips", func(s *api.BaneSea) { s.Trips = nil }, nil, 0, api.OK},
		{"no path", func(s *api.BaneSea) { s.Wait = 3 }, nil, 0, api.OK},
		{"clean and infested", func(s *api.BaneSea) { s.Clean = []int{0} }, nil, 0, api.ErrNone},
		{"one of them infested", func(s *api.BaneSea) { s.Clean = []int{0, 3} }, nil, 0, api.ErrNone},
		{"clean and infested, no trips", func(s *api.BaneSea) { s.Clean, s.Trips = []int{0}, nil }, nil, 0, api.ErrNone},
		{"all others", func(s *api.BaneSea) { s.Clean = []int{1, 2, 3} }, []int{0, 4}, 12, api.OK},
		{"dearest", costs(api.BaneCost, 0, api.BaneCost, api.BaneCost, 0), []int{0}, api.BaneCost, api.OK},
	} {
		s := chapterSea()
		x.change(&s)
		if l, c, e := bane.Guards(s); e != x.e || c != x.cost || !slices.Equal(l, x.want) {
			t.Errorf("%s: %v %v %v", x.name, l, c, e)
		}
	}
}

// P4.5: of guards that cost the same, fewer ones; here one that costs as much as two.
func TestGuardsFewest(t *testing.T) {
	s := seaOf(4, 0, []int{0}, [3]int{1, 0, 1}, [3]int{2, 0, 1}, [3]int{5, 1, 3})
	s.Clean = []int{3}
	s.Trips[2].Cost = 2
	if l, c, e := bane.Guards(s); e != api.OK || c != 2 || !slices.Equal(l, []int{2}) {
		t.Error(l, c, e)
	}
	s.Trips[2].Cost = 3
	if l, c, e := bane.Guards(s); e != api.OK || c != 2 || !slices.Equal(l, []int{0, 1}) {
		t.Error(l, c, e)
	}
	s.Trips[0].Cost, s.Trips[1].Cost, s.Trips[2].Cost = 0, 0, 0
	if l, c, e := bane.Guards(s); e != api.OK || c != 0 || !slices.Equal(l, []int{2}) {
		t.Error(l, c, e)
	}
}

// P4.5: best guards against all guards; behind them, whatever trips carry beetles, no clean islet catches them.
func TestGuardsRandom(t *testing.T) {
	r := rand.New(rand.NewSource(61))
	seen := map[int]int{}
	for range 600 {
		s := randomSea(r)
		want, cost, found := plainBest(tripCosts(s), func(guards []int) bool { return plainKeeps(s, guards) })
		l, c, e := bane.Guards(s)
		if !slices.Equal(l, want) || c != cost || found != (e == api.OK) || !found && e != api.ErrNone {
			t.Fatal(s, l, c, e, want, cost, found)
		}
		if !found {
			seen[-1]++
			continue
		}
		seen[len(l)]++
		for range 5 {
			days, _ := bane.Spread(s, l, randomCarries(r, s))
			for _, islet := range s.Clean {
				if days[islet] >= 0 {
					t.Fatal(s, l, days)
				}
			}
		}
	}
	for _, count := range []int{-1, 0, 1, 2} {
		if seen[count] < 20 {
			t.Error(seen)
		}
	}
}

// P4.5: no guards that somebody proposes, and that keep the clean islets, are cheaper.
func TestGuardsProposed(t *testing.T) {
	r := rand.New(rand.NewSource(62))
	for range 1000 {
		s := randomSea(r)
		_, cost, e := bane.Guards(s)
		for range 10 {
			guards := randomSet(r, len(s.Trips), 2)
			days := catches(t, s, guards)
			keeps := !slices.ContainsFunc(s.Clean, func(islet int) bool { return days[islet] >= 0 })
			if keeps && (e != api.OK || plainCost(tripCosts(s), guards) < cost) {
				t.Fatal(s, guards, cost, e)
			}
		}
	}
}

// P4.5: the chapter's example, and seas near it.
func TestHold(t *testing.T) {
	for _, x := range []struct {
		name   string
		change func(*api.BaneSea)
		want   int
		e      api.Errno
	}{
		{"chapter's", func(s *api.BaneSea) {}, 3, api.OK},
		{"whatever Wait is", func(s *api.BaneSea) { s.Wait = 0 }, 3, api.OK},
		{"Wait is longer", func(s *api.BaneSea) { s.Wait = api.BaneWait }, 3, api.OK},
		{"the last trip is later", func(s *api.BaneSea) { s.Trips[3].Day = 43 }, 40, api.OK},
		{"too late for any wait", func(s *api.BaneSea) { s.Trips[3].Day = 44 }, 0, api.ErrNone},
		{"straight from the infested one", func(s *api.BaneSea) { s.Clean = []int{1} }, 0, api.ErrNone},
		{"clean and infested", func(s *api.BaneSea) { s.Clean = []int{0} }, 0, api.ErrNone},
		{"none must be clean", func(s *api.BaneSea) { s.Clean = nil }, 0, api.OK},
		{"none is infested", func(s *api.BaneSea) { s.Infested = nil }, 0, api.OK},
		{"on one day", func(s *api.BaneSea) { *s = seaOf(3, 9, []int{0}, [3]int{7, 0, 1}, [3]int{7, 1, 2}); s.Clean = []int{2} }, 1, api.OK},
		{"the first trip is later", func(s *api.BaneSea) { *s = seaOf(3, 9, []int{0}, [3]int{8, 0, 1}, [3]int{7, 1, 2}); s.Clean = []int{2} }, 0, api.OK},
		{"of several the latest", func(s *api.BaneSea) { s.Clean = []int{2, 3}; s.Trips[4].From = 1 }, 4, api.OK},
	} {
		s := chapterSea()
		x.change(&s)
		if n, e := bane.Hold(s); e != x.e || n != x.want {
			t.Errorf("%s: %v %v", x.name, n, e)
		}
	}
}

// P4.5: with the wait that is told no clean islet can catch beetles, with any shorter one some can.
func TestHoldRandom(t *testing.T) {
	r := rand.New(rand.NewSource(63))
	seen := map[string]int{}
	for range 4000 {
		s := randomSea(r)
		for k := range s.Trips {
			s.Trips[k].Day *= 1 + r.Intn(6)
		}
		n, e := bane.Hold(s)
		kind := "some"
		waits := n
		if e == api.ErrNone {
			kind, waits = "none", api.BaneWait+1
		} else if n == 0 {
			kind = "any"
		}
		seen[kind]++
		for s.Wait = range waits {
			if plainKeeps(s, nil) {
				t.Fatal(s, n, e)
			}
		}
		if s.Wait = n; e == api.OK && !plainKeeps(s, nil) || e != api.OK && (e != api.ErrNone || n != 0) {
			t.Fatal(s, n, e)
		}
	}
	if seen["some"] < 100 || seen["any"] < 100 || seen["none"] < 100 {
		t.Error(seen)
	}
}
