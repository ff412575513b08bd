package council_test

import (
	"math"
	"math/rand"
	"strings"
	"testing"

	"motu/api"
	"motu/council"
)

type change struct {
	name   string
	change func(*api.CouncilAtoll)
}

// P10.1: atolls that are as defined; many reach a bound.
func TestGoodAtolls(t *testing.T) {
	for _, x := range []change{
		{"as it is", func(a *api.CouncilAtoll) {}},
		{"tanks for nothing", func(a *api.CouncilAtoll) { a.Tank = 0 }},
		{"the dearest tanks", func(a *api.CouncilAtoll) { a.Tank = api.CouncilCost }},
		{"no money", func(a *api.CouncilAtoll) { a.Money = 0 }},
		{"all the money that there can be", func(a *api.CouncilAtoll) { a.Money = api.CouncilMoney }},
		{"no memories", func(a *api.CouncilAtoll) { a.Book.Memories = nil }},
		{"memories that do not agree", func(a *api.CouncilAtoll) { a.Book.Memories[0].Years = span(12, 30) }},
		{"as many memories as there can be", func(a *api.CouncilAtoll) {
			for len(a.Book.Memories) < api.LandMemories {
				a.Book.Memories = append(a.Book.Memories, memory(0, 1, 0, 100))
			}
		}},
		{"no trips", func(a *api.CouncilAtoll) { a.Sea.Trips = nil }},
		{"no lots", func(a *api.CouncilAtoll) { a.Store.Lots = []api.ShipLot{} }},
		{"no wells", func(a *api.CouncilAtoll) { a.Islet.Wells = nil }},
		{"no berths", func(a *api.CouncilAtoll) { a.Fishing.Berths = []int{0, 0} }},
	} {
		a := chapterAtoll(200)
		x.change(&a)
		if e := council.Check(a); e != api.OK {
			t.Error(x.name, e)
		}
		c, e := council.Open(a)
		if e != api.OK || c == nil {
			t.Error(x.name, e)
		}
		if n := money(t, c); n != a.Money {
			t.Error(x.name, n)
		}
	}
}

// badAtolls are changes that leave the chapter's atoll not as defined, each in one place only.
func badAtolls() []change {
	return []change{
		{"zero value", func(a *api.CouncilAtoll) { *a = api.CouncilAtoll{} }},
		{"no islet", func(a *api.CouncilAtoll) { a.Islet = api.LensIslet{} }},
		{"a well", func(a *api.CouncilAtoll) { a.Islet.Wells[1] = 1001 }},
		{"months", func(a *api.CouncilAtoll) { a.Islet.Months = nil }},
		{"a tank below 0", func(a *api.CouncilAtoll) { a.Tank = -1 }},
		{"a tank that is too dear", func(a *api.CouncilAtoll) { a.Tank = api.CouncilCost + 1 }},
		{"the least tank", func(a *api.CouncilAtoll) { a.Tank = math.MinInt }},
		{"the greatest tank", func(a *api.CouncilAtoll) { a.Tank = math.MaxInt }},
		{"no book", func(a *api.CouncilAtoll) { a.Book = api.LandBook{} }},
		{"a memory", func(a *api.CouncilAtoll) { a.Book.Memories[3].To = 4 }},
		{"memories", func(a *api.CouncilAtoll) { a.Book.Memories = make([]api.LandMemory, 11) }},
		{"no reef", func(a *api.CouncilAtoll) { a.Reef = api.Reef{} }},
		{"a place", func(a *api.CouncilAtoll) { a.Reef.Places[1].Worth = -1 }},
		{"seasons", func(a *api.CouncilAtoll) { a.Reef.Seasons = 5 }},
		{"no sea", func(a *api.CouncilAtoll) { a.Sea = api.BaneSea{} }},
		{"a trip", func(a *api.CouncilAtoll) { a.Sea.Trips[4].From = 2 }},
		{"a clean islet", func(a *api.CouncilAtoll) { a.Sea.Clean[0] = 4 }},
		{"no store", func(a *api.CouncilAtoll) { a.Store = api.ShipStore{} }},
		{"a lot", func(a *api.CouncilAtoll) { a.Store.Lots[2].Cost = -1 }},
		{"a hold", func(a *api.CouncilAtoll) { a.Store.Hold = -1 }},
		{"no system", func(a *api.CouncilAtoll) { a.System = api.CellSystem{} }},
		{"a panel", func(a *api.CouncilAtoll) { a.System.Panel = -1 }},
		{"a load", func(a *api.CouncilAtoll) { a.System.Loads[1].Keep = -1 }},
		{"no fishing", func(a *api.CouncilAtoll) { a.Fishing = api.FleetSea{} }},
		{"a road", func(a *api.CouncilAtoll) { a.Fishing.Roads[3] = 16 }},
		{"berths", func(a *api.CouncilAtoll) { a.Fishing.Berths[0] = 5 }},
		{"debts", func(a *api.CouncilAtoll) { a.Money = -1 }},
		{"too much money", func(a *api.CouncilAtoll) { a.Money = api.CouncilMoney + 1 }},
		{"the least money", func(a *api.CouncilAtoll) { a.Money = math.MinInt }},
		{"the greatest money", func(a *api.CouncilAtoll) { a.Money = math.MaxInt }},
	}
}

// P10.1, P10.8, P10.9: atolls that are not; a text that is too long comes first, a line with an error later.
func TestBadAtolls(t *testing.T) {
	long := strings.Repeat("\n", api.CouncilText+1)
	for _, x := range badAtolls() {
		a := chapterAtoll(200)
		x.change(&a)
		if e := council.Check(a); e != api.ErrArg {
			t.Error(x.name, e)
		}
		if c, e := council.Open(a); e != api.ErrArg || c != nil {
			t.Error(x.name, c, e)
		}
		for _, text := range []string{"", "tank\n", "no line"} {
			if c, index, e := council.Replay(a, text); e != api.ErrArg || index != -1 || c != nil {
				t.Error(x.name, c, index, e)
			}
			if s, e := council.Console(a, text); e != api.ErrArg || s != "" {
				t.Error(x.name, s, e)
			}
		}
		if c, index, e := council.Replay(a, long); e != api.ErrLong || index != -1 || c != nil {
			t.Error(x.name, c, index, e)
		}
		if s, e := council.Console(a, long); e != api.ErrLong || s != "" {
			t.Error(x.name, s, e)
		}
	}
}

// P10.1: at first nothing is there, and nothing was done.
func TestOpened(t *testing.T) {
	c := open(t, chapterAtoll(200))
	for _, x := range []struct{ line, want string }{
		{"water", "2 0 0 0 0 0"}, {"line 0", "-1 0 1 2"}, {"short", "0 357"}, {"beetles", "0 1 3 5"}, {"want 60", "32 43 35 -1"}, {"cooler", "0 0 0 0 0 0"}, {"sale", "0 0"}, {"money", "200"},
	} {
		if s, e := c.Do(x.line); s != x.want || e != api.OK {
			t.Error(x, s, e)
		}
	}
	if list, e := c.Cheat(); len(list) != 0 || e != api.ErrNone {
		t.Error(list, e)
	}
	if s, e := c.Journal(); s != "" || e != api.OK {
		t.Errorf("%q %v", s, e)
	}
	for _, undone := range []api.Errno{c.Reopen(0, 0), c.Free(0), c.Unload(0)} {
		if undone != api.ErrState {
			t.Error(undone)
		}
	}
}

// P10.1 to P10.9: a nil council, and the zero value, have the error ErrNil, which comes before any other one.
func TestNil(t *testing.T) {
	var zero council.Council
	for _, c := range []*council.Council{nil, &zero} {
		for k, e := range []api.Errno{
			c.Tank(), c.Tell(memory(0, 1, 1, 2)), c.Tell(memory(9, 9, 2, 1)), c.Close(0, 0), c.Close(-1, -1), c.Reopen(0, 0), c.Reopen(9, 9), c.Guard(0), c.Guard(-1), c.Free(0), c.Free(9),
			c.Load(0), c.Load(-1), c.Unload(0), c.Unload(9), c.Panel(), c.Battery(), c.Bid(bid(0, 0, 0, 1, 1)), c.Bid(bid(-1, 0, 0, 0, 0)), c.Award(), c.Report(report(0, 1)), c.Report(report(-1, 0)),
		} {
			if e != api.ErrNil {
				t.Error(k, e)
			}
		}
		want := "{[] 0 0 0} 1; " + strings.Repeat("[] 0 1; ", api.LandStrips) + "0 0 1; [] 1; [] 1; [] 1; [] 1; [] 1; { 0 0} 1; 0 0 1; [] 1; 0 1; \"\" 1; "
		if got := everything(c); got != want {
			t.Error(got)
		}
		if line, stranger, e := c.Line(-1); line != nil || stranger != 0 || e != api.ErrNil {
			t.Error(line, stranger, e)
		}
		if wants, e := c.Want(-1); wants != nil || e != api.ErrNil {
			t.Error(wants, e)
		}
		for _, line := range []string{"money", "tank", "guard 9", "", "no line", strings.Repeat("x", 201)} {
			if s, e := c.Do(line); s != "" || e != api.ErrNil {
				t.Error(line, s, e)
			}
		}
	}
}

// P0.1, P10.1: whatever numbers acts and questions have, they have an error of theirs, and change nothing.
func TestAnyNumbers(t *testing.T) {
	r := rand.New(rand.NewSource(101))
	odd := []int{math.MinInt, math.MinInt + 1, math.MinInt32, -1001, -2, -1, 0, 1, 2, 3, 4, 5, 63, 64, 65, 1001, math.MaxInt32, math.MaxInt - 1, math.MaxInt}
	n := func() int { return odd[r.Intn(len(odd))] }
	refused := 0
	for range 30 {
		a := randomAtoll(r)
		c := open(t, a)
		for range 300 {
			before := money(t, c)
			journal, _ := c.Journal()
			for _, e := range []api.Errno{c.Tell(memory(n(), n(), n(), n())), c.Close(n(), n()), c.Reopen(n(), n()), c.Guard(n()), c.Free(n()), c.Load(n()), c.Unload(n()), c.Bid(bid(n(), n(), n(), n(), n())), c.Report(report(n(), n()))} {
				if e != api.OK && e != api.ErrArg && e != api.ErrState && e != api.ErrRule {
					t.Fatal(a, e)
				}
				if e == api.ErrArg {
					refused++
				}
			}
			line, _, e := c.Line(n())
			if e == api.ErrArg && line != nil {
				t.Fatal(line)
			}
			wants, e := c.Want(n())
			if e == api.ErrArg && wants != nil {
				t.Fatal(wants)
			}
			after, _ := c.Journal()
			if !strings.HasPrefix(after, journal) || money(t, c) > before {
				t.Fatal(journal, after)
			}
		}
	}
	if refused < 10000 {
		t.Error(refused)
	}
}
