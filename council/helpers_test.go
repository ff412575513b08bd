package council_test

import (
	"fmt"
	"math/rand"
	"strconv"
	"strings"
	"testing"

	"motu/api"
	"motu/council"
)

func span(low, high int) api.Span { return api.Span{Low: low, High: high} }

func memory(from, to, low, high int) api.LandMemory {
	return api.LandMemory{From: from, To: to, Years: span(low, high)}
}

func bid(fleet, zone, from, days, price int) api.FleetBid {
	return api.FleetBid{Fleet: fleet, Zone: zone, From: from, Days: days, Price: price}
}

func report(day, cells int) api.FleetReport { return api.FleetReport{Day: day, Cells: cells} }

// chapterAtoll returns the atoll a of the chapter's examples, with other money.
func chapterAtoll(money int) api.CouncilAtoll {
	month := api.LensMonth{Wet: span(100, 150), Dry: span(0, 20), Need: span(40, 50)}
	return api.CouncilAtoll{
		Islet: api.LensIslet{
			Cap: 1000, Start: span(400, 600), Roof: 200, Sand: 10000, Soak: span(300, 400), Leak: span(50, 100), Pump: 30, Keep: 250, Size: 10,
			Wells: []int{200, 300}, Months: []api.LensMonth{month, month, month}, Most: 2, Row: 2,
		},
		Tank: 10,
		Book: api.LandBook{
			People:   []api.LandPerson{{Mother: -1, Adopted: -1}, {Mother: 0, Adopted: -1}, {Mother: 1, Adopted: -1}, {Mother: -1, Adopted: 0}},
			Events:   []api.LandEvent{{Strip: 0, Holder: 0}, {Strip: 0, Holder: 1}, {Strip: 0, Holder: 2}, {Strip: 1, Holder: 1}},
			Memories: []api.LandMemory{memory(0, 1, 10, 20), memory(1, 2, 5, 8), memory(0, 2, 12, 16), memory(1, 3, -3, 0)},
		},
		Reef: api.Reef{Miss: 200, Seasons: 2, Places: []api.ReefPlace{
			{Count: 1000, Room: 2000, Grow: span(200, 300), Drift: 100, Into: 1, Open: span(200, 300), Shut: span(0, 50), Goal: 900, Worth: 10},
			{Count: 500, Room: 800, Grow: span(100, 200), Into: -1, Open: span(100, 200), Shut: span(0, 20), Goal: 450, Worth: 6},
		}},
		Sea: api.BaneSea{Islets: 4, Infested: []int{0}, Clean: []int{3}, Wait: 2, Trips: []api.BaneTrip{
			{Day: 1, From: 0, To: 1, Cost: 5}, {Day: 2, From: 1, To: 3, Cost: 9}, {Day: 3, From: 1, To: 2, Cost: 4}, {Day: 5, From: 2, To: 3, Cost: 6}, {Day: 4, From: 0, To: 2, Cost: 7},
		}},
		Store: api.ShipStore{Stock: []int{130, 70}, Use: []api.Span{span(3, 4), span(1, 2)}, Gap: span(20, 30), Hold: 100, Lots: []api.ShipLot{
			{Goods: []api.Span{span(90, 100), span(0, 0)}, Weight: 50, Cost: 70},
			{Goods: []api.Span{span(0, 0), span(50, 60)}, Weight: 30, Cost: 40},
			{Goods: []api.Span{span(130, 130), span(30, 30)}, Weight: 90, Cost: 100},
		}},
		System: api.CellSystem{
			Sunny: 100, Cloudy: 20, Size: 200, Fade: 10, Start: 1000, Loads: []api.CellLoad{{Need: 120, Must: true}, {Need: 60, Keep: 100}},
			Days: 4, Window: 3, Most: 2, Panel: 50, Battery: 80,
		},
		Fishing: api.FleetSea{Cells: 4, Roads: []int{2, 5, 10, 4}, Zones: []int{3, 12}, Berths: []int{1, 2}, Days: 4},
		Money:   money,
	}
}

// plenty is money that no acts use up.
const plenty = 1000000

func open(t *testing.T, a api.CouncilAtoll) *council.Council {
	t.Helper()
	c, e := council.Open(a)
	if e != api.OK || c == nil {
		t.Fatal(a, e)
	}
	return c
}

// everything is what a council returns, without being changed.
func everything(c *council.Council) string {
	all := ""
	add := func(results ...any) { all += strings.Replace(fmt.Sprintln(results...), "\n", "; ", 1) }
	water, e := c.Water()
	add(water, e)
	for strip := range api.LandStrips {
		line, stranger, e := c.Line(strip)
		add(line, stranger, e)
	}
	place, fish, e := c.Short()
	add(place, fish, e)
	days, e := c.Beetles()
	add(days, e)
	for _, days := range []int{0, 7, 60, api.ShipLast} {
		wants, e := c.Want(days)
		add(wants, e)
	}
	fault, e := c.Cooler()
	add(fault, e)
	sale, revenue, e := c.Sale()
	add(sale, revenue, e)
	reports, e := c.Cheat()
	add(reports, e)
	money, e := c.Money()
	add(money, e)
	journal, e := c.Journal()
	add(strconv.Quote(journal), e)
	return all
}

// check is an act's error, and the one that is wanted.
type check struct{ got, want api.Errno }

func checkAll(t *testing.T, all ...check) {
	t.Helper()
	for k, x := range all {
		if x.got != x.want {
			t.Errorf("%d: %d, not %d", k, x.got, x.want)
		}
	}
}

// doAll does lines that are acts without an error.
func doAll(t *testing.T, c *council.Council, lines ...string) {
	t.Helper()
	for _, line := range lines {
		if s, e := c.Do(line); s != "" || e != api.OK {
			t.Fatal(line, s, e)
		}
	}
}

// replayed returns the council that is played again from the journal of another one.
func replayed(t *testing.T, a api.CouncilAtoll, c *council.Council) *council.Council {
	t.Helper()
	journal, e := c.Journal()
	if e != api.OK {
		t.Fatal(e)
	}
	again, index, e := council.Replay(a, journal)
	if e != api.OK || index != -1 || again == nil {
		t.Fatal(journal, index, e)
	}
	return again
}

func money(t *testing.T, c *council.Council) int {
	t.Helper()
	n, e := c.Money()
	if e != api.OK {
		t.Fatal(e)
	}
	return n
}

func randomSpan(r *rand.Rand, low, high int) api.Span {
	a, b := low+r.Intn(high-low+1), low+r.Intn(high-low+1)
	return span(min(a, b), max(a, b))
}

// within returns a number of a span.
func within(r *rand.Rand, s api.Span) int { return s.Low + r.Intn(s.High-s.Low+1) }

func randomList(r *rand.Rand, many, low, high int) []int {
	var list []int
	for range many {
		list = append(list, low+r.Intn(high-low+1))
	}
	return list
}

// randomNumbers returns strictly increasing numbers of some things.
func randomNumbers(r *rand.Rand, things int) []int {
	var list []int
	for n := range things {
		if r.Intn(3) == 0 {
			list = append(list, n)
		}
	}
	return list
}

func randomIslet(r *rand.Rand) api.LensIslet {
	i := api.LensIslet{Cap: 1 + r.Intn(100), Roof: r.Intn(300), Sand: r.Intn(1000), Soak: randomSpan(r, 0, 1000), Leak: randomSpan(r, 0, 300), Pump: r.Intn(20), Size: r.Intn(5)}
	i.Start, i.Keep, i.Wells = randomSpan(r, 0, i.Cap), r.Intn(i.Cap+1), randomList(r, r.Intn(3), 0, i.Cap/2)
	for range 1 + r.Intn(4) {
		dry := randomSpan(r, 0, 50)
		i.Months = append(i.Months, api.LensMonth{Dry: dry, Wet: span(dry.Low+r.Intn(50), dry.High+50+r.Intn(50)), Need: randomSpan(r, 0, 30)})
	}
	i.Most, i.Row = r.Intn(len(i.Months)+1), r.Intn(len(i.Months)+1)
	return i
}

// randomMemory returns a memory of one of some events, of which there are two or more.
func randomMemory(r *rand.Rand, events int) api.LandMemory {
	from := r.Intn(events)
	m := memory(from, (from+1+r.Intn(events-1))%events, 0, 0)
	m.Years = randomSpan(r, -3, 4)
	return m
}

func randomBook(r *rand.Rand) api.LandBook {
	var b api.LandBook
	for k := range 1 + r.Intn(4) {
		b.People = append(b.People, api.LandPerson{Mother: r.Intn(k+1) - 1, Adopted: r.Intn(k+1) - 1})
	}
	for range 2 + r.Intn(2) {
		b.Events = append(b.Events, api.LandEvent{Strip: r.Intn(2), Holder: r.Intn(len(b.People))})
	}
	for range r.Intn(3) {
		b.Memories = append(b.Memories, randomMemory(r, len(b.Events)))
	}
	return b
}

func randomReef(r *rand.Rand) api.Reef {
	f := api.Reef{Miss: r.Intn(300), Seasons: 1 + r.Intn(3)}
	many := 1 + r.Intn(3)
	for k := range many {
		p := api.ReefPlace{Count: r.Intn(100), Room: r.Intn(200), Grow: randomSpan(r, 0, 500), Drift: r.Intn(200), Into: r.Intn(many) - 1, Shut: randomSpan(r, 0, 5), Goal: r.Intn(60), Worth: r.Intn(9)}
		if p.Into == k {
			p.Into = -1
		}
		p.Open = span(p.Shut.Low+r.Intn(20), p.Shut.High+20+r.Intn(20))
		f.Places = append(f.Places, p)
	}
	return f
}

func randomSea(r *rand.Rand) api.BaneSea {
	s := api.BaneSea{Islets: 2 + r.Intn(4), Wait: r.Intn(4)}
	s.Infested, s.Clean = randomNumbers(r, s.Islets), randomNumbers(r, s.Islets)
	for range r.Intn(api.BaneTrips + 1) {
		from := r.Intn(s.Islets)
		s.Trips = append(s.Trips, api.BaneTrip{Day: r.Intn(12), From: from, To: (from + 1 + r.Intn(s.Islets-1)) % s.Islets, Cost: r.Intn(9)})
	}
	return s
}

func randomStore(r *rand.Rand) api.ShipStore {
	kinds := 1 + r.Intn(3)
	s := api.ShipStore{Stock: randomList(r, kinds, 0, 100), Gap: randomSpan(r, 1, 20), Hold: r.Intn(60)}
	for range kinds {
		s.Use = append(s.Use, randomSpan(r, 0, 6))
	}
	for range r.Intn(5) {
		lot := api.ShipLot{Weight: r.Intn(40), Cost: r.Intn(20)}
		for range kinds {
			lot.Goods = append(lot.Goods, randomSpan(r, 0, 60))
		}
		s.Lots = append(s.Lots, lot)
	}
	return s
}

func randomSystem(r *rand.Rand) api.CellSystem {
	c := api.CellSystem{Sunny: r.Intn(20), Size: r.Intn(20), Fade: r.Intn(200), Start: r.Intn(1001), Days: 1 + r.Intn(5), Panel: r.Intn(30), Battery: r.Intn(30)}
	c.Cloudy, c.Window = r.Intn(c.Sunny+1), 1+r.Intn(c.Days)
	c.Most = r.Intn(c.Window + 1)
	for range 1 + r.Intn(3) {
		c.Loads = append(c.Loads, api.CellLoad{Need: r.Intn(12), Keep: r.Intn(2) * r.Intn(12), Must: r.Intn(2) == 0})
	}
	return c
}

func randomFishing(r *rand.Rand) api.FleetSea {
	s := api.FleetSea{Cells: 1 + r.Intn(4), Days: 1 + r.Intn(5)}
	zones, all := 1+r.Intn(3), 1<<s.Cells-1
	s.Roads, s.Zones, s.Berths = randomList(r, s.Cells, 0, all), randomList(r, zones, 0, all), randomList(r, zones, 0, 2)
	return s
}

// randomAtoll returns an atoll in which most acts can be done, and are often refused.
func randomAtoll(r *rand.Rand) api.CouncilAtoll {
	return api.CouncilAtoll{
		Islet: randomIslet(r), Tank: r.Intn(20), Book: randomBook(r), Reef: randomReef(r), Sea: randomSea(r), Store: randomStore(r),
		System: randomSystem(r), Fishing: randomFishing(r), Money: r.Intn(1 + r.Intn(500)),
	}
}

// randomLine returns a line, which is one of an act more often than not, and mostly has numbers that are as defined.
func randomLine(r *rand.Rand, a api.CouncilAtoll) string {
	n := func(many int) int { return r.Intn(many+1) - r.Intn(2)*r.Intn(2) }
	lines := []func() []any{
		func() []any { return []any{"tank"} },
		func() []any {
			m := randomMemory(r, len(a.Book.Events))
			return []any{"tell", m.From, m.To, m.Years.Low, m.Years.High - r.Intn(3)/2}
		},
		func() []any { return []any{"close", n(len(a.Reef.Places)), n(a.Reef.Seasons)} },
		func() []any { return []any{"reopen", n(len(a.Reef.Places)), n(a.Reef.Seasons)} },
		func() []any { return []any{"guard", n(len(a.Sea.Trips))} },
		func() []any { return []any{"free", n(len(a.Sea.Trips))} },
		func() []any { return []any{"load", n(len(a.Store.Lots))} },
		func() []any { return []any{"unload", n(len(a.Store.Lots))} },
		func() []any { return []any{"panel"} },
		func() []any { return []any{"battery"} },
		func() []any {
			return []any{"bid", n(10), n(len(a.Fishing.Zones)), n(a.Fishing.Days), n(a.Fishing.Days), n(100)}
		},
		func() []any { return []any{[]string{"award", "money", "sale", "cheat"}[r.Intn(4)]} },
		func() []any { return []any{"report", n(a.Fishing.Days), n(1 << a.Fishing.Cells)} },
		func() []any { return []any{[]string{"water", "short", "beetles", "cooler"}[r.Intn(4)]} },
		func() []any { return []any{"line", n(2)} },
		func() []any { return []any{"want", n(100)} },
	}
	words := fmt.Sprintln(lines[r.Intn(len(lines))]()...)
	return strings.TrimSuffix(words, "\n")
}
