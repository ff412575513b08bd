package council_test

import (
	"math/rand"
	"testing"

	"motu/api"
	"motu/council"
)

// P10.7: what each act of the chapter's atoll costs, one after the other.
func TestChapterMoney(t *testing.T) {
	c := open(t, chapterAtoll(1000))
	left := 1000
	for _, x := range []struct {
		line string
		cost int
	}{
		{"tank", 10}, {"tell 0 1 11 30", 0}, {"close 0 0", 10}, {"reopen 0 0", 0}, {"close 0 0", 10}, {"close 1 0", 6}, {"guard 1", 9}, {"free 1", 0}, {"guard 1", 9}, {"guard 3", 6},
		{"load 2", 100}, {"unload 2", 0}, {"load 0", 70}, {"load 1", 40}, {"panel", 50}, {"battery", 80}, {"bid 3 1 0 1 500", 0}, {"bid 4 1 0 1 400", 0}, {"bid 4 1 0 1 450", 0}, {"award", -950}, {"report 0 3", 0},
	} {
		doAll(t, c, x.line)
		left -= x.cost
		if n := money(t, c); n != left {
			t.Error(x, n, left)
		}
	}
	if s, e := c.Do("money"); s != "1550" || e != api.OK {
		t.Error(s, e)
	}
}

// P10.7: the most money that there can be, which has more digits than numbers of lines.
func TestMostMoney(t *testing.T) {
	a := chapterAtoll(api.CouncilMoney)
	a.Fishing.Berths = []int{4, 4}
	c := open(t, a)
	for k := range 8 {
		checkAll(t, check{c.Bid(bid(k, k%2, 0, 4, api.FleetPrice)), api.OK})
	}
	checkAll(t, check{c.Award(), api.OK})
	if n := money(t, c); n != 1008000000 {
		t.Error(n)
	}
	if s, e := c.Do("money"); s != "1008000000" || e != api.OK {
		t.Error(s, e)
	}
	a.Tank = api.CouncilCost
	c = open(t, a)
	for range api.LensTanks {
		checkAll(t, check{c.Tank(), api.OK})
	}
	if n := money(t, c); n != 960000000 {
		t.Error(n)
	}
}

// P10.7: the money is never less than 0, and changes by what an act that was done costs, or by what was awarded, and by nothing else.
func TestLedger(t *testing.T) {
	r := rand.New(rand.NewSource(112))
	paid, broke := 0, 0
	for range 300 {
		a := randomAtoll(r)
		a.Money = r.Intn(60)
		c := open(t, a)
		costs := map[string]func(n []int) int{
			"tank":    func([]int) int { return a.Tank },
			"close":   func(n []int) int { return a.Reef.Places[n[0]].Worth },
			"guard":   func(n []int) int { return a.Sea.Trips[n[0]].Cost },
			"load":    func(n []int) int { return a.Store.Lots[n[0]].Cost },
			"panel":   func([]int) int { return a.System.Panel },
			"battery": func([]int) int { return a.System.Battery },
		}
		for range 60 {
			left := money(t, c)
			line := randomLine(r, a)
			_, e := c.Do(line)
			d := read(line)
			if cost, is := costs[d.word]; is && e == api.OK {
				left -= cost(d.numbers)
				paid += cost(d.numbers)
			}
			if d.word == "award" && e == api.OK {
				_, revenue, _ := c.Sale()
				left += revenue
			}
			if n := money(t, c); n != left || n < 0 {
				t.Fatal(a, line, n, left)
			}
			if e == api.ErrRule {
				broke++
			}
		}
	}
	if paid < 1000 || broke < 1000 {
		t.Error(paid, broke)
	}
}

// P10.7: an act that is refused for another reason costs nothing.
func TestRefusedIsFree(t *testing.T) {
	c := open(t, chapterAtoll(500))
	doAll(t, c, "close 0 0", "guard 0", "load 0")
	left := money(t, c)
	for _, e := range []api.Errno{c.Close(0, 0), c.Close(9, 0), c.Guard(0), c.Guard(9), c.Load(0), c.Load(9), c.Load(2), c.Reopen(1, 0), c.Free(1), c.Unload(1), c.Tell(memory(0, 1, 900, 999))} {
		if e == api.OK || money(t, c) != left {
			t.Error(e, money(t, c))
		}
	}
	var zero council.Council
	if n, e := zero.Money(); n != 0 || e != api.ErrNil {
		t.Error(n, e)
	}
}
