package council_test

import (
	"math/rand"
	"strings"
	"testing"

	"motu/api"
	"motu/council"
)

// P10.1 to P10.7: each act has the error that comes first: of its numbers, of the state, of a rule.
func TestOrderOfErrors(t *testing.T) {
	rich := open(t, chapterAtoll(plenty))
	doAll(t, rich, "load 2", "award")
	for range 6 {
		doAll(t, rich, "tell 0 1 0 100")
	}
	checkAll(t,
		// not as defined, and one too many, and contradicting
		check{rich.Tell(memory(0, 1, 900, 899)), api.ErrArg}, check{rich.Tell(memory(0, 4, 900, 901)), api.ErrArg}, check{rich.Tell(memory(1, 1, 5, 6)), api.ErrArg}, check{rich.Tell(memory(0, 1, 900, 1001)), api.ErrArg},
		// one too many, and contradicting
		check{rich.Tell(memory(0, 1, 900, 901)), api.ErrState},
		// loaded already, and too heavy with itself
		check{rich.Load(2), api.ErrState}, check{rich.Load(1), api.ErrRule}, check{rich.Load(3), api.ErrArg},
		// not as defined, after the award
		check{rich.Bid(bid(0, 0, 4, 1, 1)), api.ErrArg}, check{rich.Bid(bid(0, 0, 3, 1, 1)), api.ErrState}, check{rich.Award(), api.ErrState},
	)
	a := chapterAtoll(10 + 5 + 100)
	a.Reef.Places[1].Worth = 1
	poor := open(t, a)
	doAll(t, poor, "close 0 0", "guard 0", "load 2")
	checkAll(t,
		// no money for it, and not as defined, or so already
		check{poor.Close(1, 2), api.ErrArg}, check{poor.Close(0, 0), api.ErrState}, check{poor.Close(1, 0), api.ErrRule},
		check{poor.Guard(5), api.ErrArg}, check{poor.Guard(0), api.ErrState}, check{poor.Guard(1), api.ErrRule},
		check{poor.Load(-1), api.ErrArg}, check{poor.Load(2), api.ErrState}, check{poor.Load(1), api.ErrRule},
		check{poor.Reopen(1, 0), api.ErrState}, check{poor.Free(1), api.ErrState}, check{poor.Unload(1), api.ErrState},
	)
}

// P10.1: acts that are refused for want of money, and are done for just as much as they cost.
func TestCosts(t *testing.T) {
	for _, x := range []struct {
		line string
		cost int
	}{{"tank", 10}, {"close 0 1", 10}, {"close 1 0", 6}, {"guard 0", 5}, {"guard 4", 7}, {"load 0", 70}, {"load 2", 100}, {"panel", 50}, {"battery", 80}} {
		c := open(t, chapterAtoll(x.cost-1))
		before := everything(c)
		if s, e := c.Do(x.line); s != "" || e != api.ErrRule || everything(c) != before {
			t.Error(x, s, e)
		}
		c = open(t, chapterAtoll(x.cost))
		if s, e := c.Do(x.line); s != "" || e != api.OK || money(t, c) != 0 {
			t.Error(x, s, e)
		}
	}
}

// P10.1, P10.7: acts that cost nothing are done without money, and what was paid does not come back.
func TestFreeActs(t *testing.T) {
	a := chapterAtoll(10 + 5 + 70)
	c := open(t, a)
	doAll(t, c, "close 0 1", "guard 0", "load 0")
	if n := money(t, c); n != 0 {
		t.Error(n)
	}
	doAll(t, c, "reopen 0 1", "free 0", "unload 0", "tell 1 3 -2 -1", "bid 0 0 0 1 0", "report 0 1", "award")
	if n := money(t, c); n != 0 {
		t.Error(n)
	}
	checkAll(t, check{c.Close(0, 1), api.ErrRule}, check{c.Guard(0), api.ErrRule}, check{c.Load(0), api.ErrRule})
	a.Tank, a.System.Panel, a.System.Battery, a.Money = 0, 0, 0, 0
	doAll(t, open(t, a), "tank", "panel", "battery")
}

// P10.1: no more of anything than there may be; what is over is refused, and changes nothing.
func TestMost(t *testing.T) {
	for _, x := range []struct {
		line string
		many int
	}{{"tank", 40}, {"tell 0 1 0 100", 6}, {"panel", 12}, {"battery", 8}, {"bid 9 1 3 1 1000000", 10}, {"report 3 15", 10}, {"award", 1}, {"close 1 1", 1}, {"guard 4", 1}, {"load 1", 1}} {
		a := chapterAtoll(plenty)
		c := open(t, a)
		for range x.many {
			doAll(t, c, x.line)
		}
		before := everything(c)
		if s, e := c.Do(x.line); s != "" || e != api.ErrState || everything(c) != before {
			t.Error(x, s, e)
		}
		if journal, e := c.Journal(); journal != strings.Repeat(x.line+"\n", x.many) || e != api.OK {
			t.Error(x, journal, e)
		}
	}
}

// P10.1: as many acts as are allowed, of each kind; one more is refused, but its numbers are looked at before.
func TestActs(t *testing.T) {
	for _, last := range []string{"tank", "tell 0 1 0 100", "close 0 0", "reopen 1 1", "guard 3", "free 4", "load 1", "unload 0", "panel", "battery", "bid 0 0 0 1 1", "award", "report 0 1"} {
		c := open(t, chapterAtoll(plenty))
		doAll(t, c, "close 1 1", "guard 4", "load 0")
		for k := range api.CouncilActs - 4 {
			doAll(t, c, []string{"guard 0", "free 0"}[k%2])
		}
		once := replayed(t, chapterAtoll(plenty), c)
		doAll(t, once, last)
		before := everything(once)
		if s, e := once.Do(last); s != "" || e != api.ErrState || everything(once) != before {
			t.Error(last, s, e)
		}
		doAll(t, c, "guard 0")
		before = everything(c)
		if s, e := c.Do(last); s != "" || e != api.ErrState || everything(c) != before {
			t.Error(last, s, e)
		}
		checkAll(t, check{c.Tell(memory(0, 0, 1, 2)), api.ErrArg}, check{c.Close(2, 0), api.ErrArg}, check{c.Reopen(0, -1), api.ErrArg}, check{c.Guard(5), api.ErrArg}, check{c.Free(-1), api.ErrArg},
			check{c.Load(3), api.ErrArg}, check{c.Unload(3), api.ErrArg}, check{c.Bid(bid(10, 0, 0, 1, 1)), api.ErrArg}, check{c.Report(report(0, 16)), api.ErrArg},
			check{c.Load(2), api.ErrState}, check{c.Tell(memory(0, 1, 900, 901)), api.ErrState})
	}
}

// byMethod does the act of a line as a method.
func byMethod(c *council.Council, d doing) api.Errno {
	n := append(d.numbers, 0, 0, 0, 0, 0)
	switch d.word {
	case "tank":
		return c.Tank()
	case "tell":
		return c.Tell(toMemory(n))
	case "close":
		return c.Close(n[0], n[1])
	case "reopen":
		return c.Reopen(n[0], n[1])
	case "guard":
		return c.Guard(n[0])
	case "free":
		return c.Free(n[0])
	case "load":
		return c.Load(n[0])
	case "unload":
		return c.Unload(n[0])
	case "panel":
		return c.Panel()
	case "battery":
		return c.Battery()
	case "bid":
		return c.Bid(bid(n[0], n[1], n[2], n[3], n[4]))
	case "award":
		return c.Award()
	default:
		return c.Report(report(n[0], n[1]))
	}
}

// P10.1 to P10.9: councils do the same as one that was written down a second time, line by line, and by methods; what is refused changes nothing.
func TestPlain(t *testing.T) {
	r := rand.New(rand.NewSource(102))
	done, refused := map[string]int{}, map[api.Errno]int{}
	acts, others := fields()
	for range 250 {
		a := randomAtoll(r)
		if r.Intn(2) == 0 {
			a.Money = plenty
		}
		p := &plain{atoll: a}
		c, methods := open(t, a), open(t, a)
		for range 150 {
			line := randomLine(r, a)
			acted := len(p.acts)
			want, wantError := p.do(line)
			before := everything(c)
			got, e := c.Do(line)
			if got != want || e != wantError {
				t.Fatalf("%v\n%s%s: %q %d, not %q %d", a, p.journal(), line, got, e, want, wantError)
			}
			word := strings.Split(line, " ")[0]
			refused[e]++
			if e == api.OK {
				done[word]++
			}
			switch {
			case len(p.acts) > acted:
				if e := byMethod(methods, p.acts[acted]); e != api.OK {
					t.Fatal(a, line, e)
				}
			case everything(c) != before:
				t.Fatal(a, line, e, before, everything(c))
			}
		}
		if journal, e := c.Journal(); journal != p.journal() || e != api.OK {
			t.Fatal(a, journal, p.journal(), e)
		}
		if everything(c) != everything(methods) || everything(c) != everything(replayed(t, a, c)) {
			t.Fatal(a, everything(c), everything(methods))
		}
	}
	for _, e := range []api.Errno{api.ErrArg, api.ErrNone, api.ErrState, api.ErrRule} {
		if refused[e] < 100 {
			t.Error(e, refused)
		}
	}
	for _, kinds := range []map[string]int{acts, others} {
		for word := range kinds {
			if done[word] < 100 {
				t.Error(word, done)
			}
		}
	}
}
