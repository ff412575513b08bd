package council_test

import (
	"math/rand"
	"slices"
	"testing"

	"motu/api"
	"motu/bane"
	"motu/council"
	"motu/reef"
	"motu/ship"
)

// wantShort asks for the first place that can be short.
func wantShort(t *testing.T, c *council.Council, place, fish int, want api.Errno) {
	t.Helper()
	if p, n, e := c.Short(); p != place || n != fish || e != want {
		t.Error(p, n, e)
	}
}

// P10.4: the chapter's reef, place by place.
func TestChapterReef(t *testing.T) {
	c := open(t, chapterAtoll(26))
	wantShort(t, c, 0, 357, api.OK)
	checkAll(t, check{c.Close(2, 0), api.ErrArg}, check{c.Close(-1, 0), api.ErrArg}, check{c.Close(0, 2), api.ErrArg}, check{c.Close(0, -1), api.ErrArg}, check{c.Reopen(2, 0), api.ErrArg}, check{c.Reopen(0, 2), api.ErrArg})
	checkAll(t, check{c.Reopen(0, 0), api.ErrState}, check{c.Close(0, 0), api.OK}, check{c.Close(0, 0), api.ErrState}, check{c.Reopen(0, 1), api.ErrState}, check{c.Close(0, 1), api.OK})
	wantShort(t, c, 1, 10, api.OK)
	checkAll(t, check{c.Close(1, 1), api.OK})
	wantShort(t, c, 0, 0, api.ErrNone)
	if n := money(t, c); n != 0 {
		t.Error(n)
	}
	checkAll(t, check{c.Reopen(1, 1), api.OK}, check{c.Reopen(1, 1), api.ErrState})
	wantShort(t, c, 1, 10, api.OK)
	checkAll(t, check{c.Close(1, 1), api.ErrRule}, check{c.Reopen(0, 1), api.OK}, check{c.Reopen(0, 0), api.OK})
	wantShort(t, c, 0, 357, api.OK)
}

func wantBeetles(t *testing.T, c *council.Council, days ...int) {
	t.Helper()
	if list, e := c.Beetles(); !slices.Equal(list, days) || e != api.OK {
		t.Error(list, e)
	}
}

// P10.4: the chapter's sea, trip by trip.
func TestChapterTrips(t *testing.T) {
	c := open(t, chapterAtoll(18))
	wantBeetles(t, c, 0, 1, 3, 5)
	checkAll(t, check{c.Free(2), api.ErrState}, check{c.Guard(5), api.ErrArg}, check{c.Guard(-1), api.ErrArg}, check{c.Free(5), api.ErrArg}, check{c.Free(-1), api.ErrArg}, check{c.Guard(4), api.OK}, check{c.Guard(2), api.OK}, check{c.Guard(2), api.ErrState})
	wantBeetles(t, c, 0, 1, -1, -1)
	if n := money(t, c); n != 7 {
		t.Error(n)
	}
	checkAll(t, check{c.Guard(1), api.ErrRule}, check{c.Free(4), api.OK}, check{c.Free(4), api.ErrState})
	wantBeetles(t, c, 0, 1, 4, -1)
	checkAll(t, check{c.Free(2), api.OK}, check{c.Guard(3), api.OK})
	wantBeetles(t, c, 0, 1, 3, -1)
	if n := money(t, c); n != 1 {
		t.Error(n)
	}
}

func wantWants(t *testing.T, c *council.Council, days int, want ...api.ShipWant) {
	t.Helper()
	if list, e := c.Want(days); !slices.Equal(list, want) || e != api.OK {
		t.Error(list, e)
	}
}

// P10.4: the chapter's store, lot by lot; lots that are too heavy together.
func TestChapterStore(t *testing.T) {
	never := api.ShipWant{May: -1, Must: -1}
	a := chapterAtoll(plenty)
	a.Store.Lots = append(a.Store.Lots, api.ShipLot{Goods: []api.Span{{}, {}}, Weight: 20}, api.ShipLot{Goods: []api.Span{{}, {}}, Weight: 21}, api.ShipLot{Goods: []api.Span{{}, {}}})
	c := open(t, a)
	wantWants(t, c, 60, api.ShipWant{May: 32, Must: 43}, api.ShipWant{May: 35, Must: -1})
	wantWants(t, c, 33, api.ShipWant{May: 32, Must: -1}, never)
	wantWants(t, c, 0, never, never)
	checkAll(t, check{c.Unload(0), api.ErrState}, check{c.Load(6), api.ErrArg}, check{c.Load(-1), api.ErrArg}, check{c.Unload(6), api.ErrArg}, check{c.Unload(-1), api.ErrArg})
	checkAll(t, check{c.Load(1), api.OK}, check{c.Load(2), api.ErrRule}, check{c.Load(0), api.OK}, check{c.Load(0), api.ErrState})
	wantWants(t, c, 60, api.ShipWant{May: 55, Must: -1}, never)
	// 50, 30 and 20 are as much as a ship can carry, and what weighs nothing is not too much
	checkAll(t, check{c.Load(4), api.ErrRule}, check{c.Load(3), api.OK}, check{c.Load(5), api.OK}, check{c.Unload(3), api.OK})
	checkAll(t, check{c.Unload(0), api.OK}, check{c.Unload(1), api.OK}, check{c.Unload(1), api.ErrState}, check{c.Load(2), api.OK})
	wantWants(t, c, 60, never, api.ShipWant{May: 50, Must: -1})
	for _, days := range []int{-1, api.ShipLast + 1} {
		if list, e := c.Want(days); len(list) != 0 || e != api.ErrArg {
			t.Error(days, list, e)
		}
	}
	if n := money(t, c); n != plenty-70-40-100 {
		t.Error(n)
	}
}

// doSome does random acts of some kinds, and returns the council, and the same written down a second time.
func doSome(t *testing.T, r *rand.Rand, a api.CouncilAtoll, words ...string) (*council.Council, *plain) {
	t.Helper()
	a.Money = plenty
	c, p := open(t, a), &plain{atoll: a}
	for range 20 {
		line := randomLine(r, a)
		if !slices.ContainsFunc(words, func(word string) bool { return len(line) > len(word) && line[:len(word)+1] == word+" " }) {
			continue
		}
		_, want := p.do(line)
		if _, e := c.Do(line); e != want {
			t.Fatal(a, line, e, want)
		}
	}
	return c, p
}

// reefTruth returns what can be true of a reef, with numbers of spans that are taken by three functions.
func reefTruth(f api.Reef, plan []int, starts, grows, takes func(api.Span) int) api.ReefTruth {
	var x api.ReefTruth
	for _, p := range f.Places {
		x.Starts = append(x.Starts, starts(span(p.Count, p.Count+p.Count*f.Miss/1000)))
	}
	for _, closed := range plan {
		var grown, taken []int
		for _, p := range f.Places {
			taking := p.Open
			if closed%2 == 1 {
				taking = p.Shut
			}
			closed /= 2
			grown, taken = append(grown, grows(p.Grow)), append(taken, takes(taking))
		}
		x.Grows, x.Takes = append(x.Grows, grown), append(x.Takes, taken)
	}
	return x
}

// P0.3, P10.4: if no place can be short, each has its goal in the end, whatever is true; one that is told does not in some truth, by so many fish.
func TestReefTruths(t *testing.T) {
	r := rand.New(rand.NewSource(106))
	low, high := func(s api.Span) int { return s.Low }, func(s api.Span) int { return s.High }
	recovers, shorts := 0, 0
	for range 1500 {
		a := chapterAtoll(0)
		a.Reef = randomReef(r)
		c, p := doSome(t, r, a, "close", "reopen")
		place, fish, e := c.Short()
		if e == api.ErrNone {
			recovers++
			some := func(s api.Span) int { return within(r, s) }
			ends, _, e := reef.Play(a.Reef, p.plan(), reefTruth(a.Reef, p.plan(), some, some, some))
			for k, n := range ends[len(ends)-1] {
				if e != api.OK || n < a.Reef.Places[k].Goal {
					t.Fatal(a.Reef, p.plan(), ends)
				}
			}
			continue
		}
		shorts++
		ends, _, worst := reef.Play(a.Reef, p.plan(), reefTruth(a.Reef, p.plan(), low, low, high))
		for k, n := range ends[len(ends)-1][:place+1] {
			want := max(0, a.Reef.Places[k].Goal-n)
			if e != api.OK || worst != api.OK || k < place && want > 0 || k == place && (want != fish || fish == 0) {
				t.Fatal(a.Reef, p.plan(), place, fish, ends)
			}
		}
	}
	if recovers < 100 || shorts < 100 {
		t.Error(recovers, shorts)
	}
}

// P0.4, P10.4: whatever trips carry beetles, no islet catches them before it can.
func TestBeetleTruths(t *testing.T) {
	r := rand.New(rand.NewSource(107))
	kept := 0
	for range 1500 {
		a := chapterAtoll(0)
		a.Sea = randomSea(r)
		c, p := doSome(t, r, a, "guard", "free")
		first, e := c.Beetles()
		if e != api.OK || len(first) != a.Sea.Islets {
			t.Fatal(a.Sea, first, e)
		}
		carries := make([]bool, len(a.Sea.Trips))
		for k := range carries {
			carries[k] = r.Intn(3) > 0
		}
		days, e := bane.Spread(a.Sea, p.guarded(), carries)
		for islet, day := range days {
			if e != api.OK || day >= 0 && (first[islet] < 0 || first[islet] > day) {
				t.Fatal(a.Sea, p.guarded(), first, days, e)
			}
		}
		without, _ := bane.Catches(a.Sea, nil)
		if !slices.Equal(without, first) {
			kept++
		}
	}
	if kept < 100 {
		t.Error(kept)
	}
}

// P0.6, P10.4: whatever is true, no kind is wanting before it can be, and each is where it surely has been.
func TestStoreTruths(t *testing.T) {
	r := rand.New(rand.NewSource(108))
	wanting := 0
	for range 1500 {
		a := chapterAtoll(0)
		a.Store = randomStore(r)
		c, p := doSome(t, r, a, "load", "unload")
		days := r.Intn(80)
		wants, e := c.Want(days)
		x := api.ShipTruth{Goods: make([][]int, len(a.Store.Lots))}
		for _, use := range a.Store.Use {
			x.Uses = append(x.Uses, within(r, use))
		}
		for k, lot := range a.Store.Lots {
			for _, goods := range lot.Goods {
				x.Goods[k] = append(x.Goods[k], within(r, goods))
			}
		}
		for range days {
			x.Gaps = append(x.Gaps, within(r, a.Store.Gap))
		}
		first, _, played := ship.Play(a.Store, p.loaded(), days, x)
		for kind, w := range wants {
			day := first[kind]
			if e != api.OK || played != api.OK || day >= 0 && (w.May < 0 || w.May > day) || w.Must >= 0 && (day < 0 || day > w.Must) {
				t.Fatal(a.Store, p.loaded(), days, wants, first, e, played)
			}
			if w.Must >= 0 {
				wanting++
			}
		}
	}
	if wanting < 100 {
		t.Error(wanting)
	}
}
