package ship_test

import (
	"math/rand"
	"slices"
	"testing"

	"motu/api"
	"motu/ship"
)

func hours(t *testing.T, p api.ShipPass, day int) (sure, perhaps []int) {
	t.Helper()
	sure, perhaps, e := ship.Hours(p, day)
	if e != api.OK {
		t.Fatal(p, day, e)
	}
	return sure, perhaps
}

func goes(t *testing.T, p api.ShipPass, c api.ShipCall, swell int) bool {
	t.Helper()
	is, e := ship.Goes(p, c, swell)
	if e != api.OK {
		t.Fatal(p, c, swell, e)
	}
	return is
}

// P6.1: the chapter's examples, and passes near it.
func TestHoursExamples(t *testing.T) {
	for _, x := range []struct {
		name          string
		change        func(*api.ShipPass)
		day           int
		sure, perhaps []int
	}{
		{"first day", func(p *api.ShipPass) {}, 0, []int{7, 8, 9, 13, 14, 15}, []int{7, 8, 9, 10, 13, 14, 15, 16}},
		{"second day", func(p *api.ShipPass) {}, 1, []int{8, 14}, []int{7, 8, 9, 13, 14, 15}},
		{"calm", func(p *api.ShipPass) { p.Swell[1] = exactly(0) }, 1, []int{7, 8, 9, 10, 13, 14, 15, 16}, []int{7, 8, 9, 10, 13, 14, 15, 16}},
		{"never in light", func(p *api.ShipPass) { p.Light = exactly(11) }, 0, nil, nil},
		{"both ends of light", func(p *api.ShipPass) { p.Light = span(8, 14) }, 1, []int{8, 14}, []int{8, 9, 13, 14}},
		{"at night", func(p *api.ShipPass) { p.Light = span(0, 23) }, 1, []int{2, 8, 14, 20}, []int{1, 2, 3, 7, 8, 9, 13, 14, 15, 19, 20, 21}},
		{"one deeper", func(p *api.ShipPass) { p.Depth = 21 }, 1, []int{8, 9, 14, 15}, []int{7, 8, 9, 10, 13, 14, 15, 16}},
		{"two less deep", func(p *api.ShipPass) { p.Depth = 18 }, 1, nil, []int{8, 14}},
		{"one draft more", func(p *api.ShipPass) { p.Draft = 22 }, 0, []int{8, 9, 14, 15}, []int{7, 8, 9, 13, 14, 15}},
		{"too deep a draft", func(p *api.ShipPass) { p.Draft = 25 }, 0, nil, nil},
		{"always deep", func(p *api.ShipPass) { p.Draft, p.Light = 0, span(22, 23) }, 0, []int{22, 23}, []int{22, 23}},
	} {
		p := chapterPass()
		x.change(&p)
		if sure, perhaps := hours(t, p, x.day); !slices.Equal(sure, x.sure) || !slices.Equal(perhaps, x.perhaps) {
			t.Errorf("%s: %v %v", x.name, sure, perhaps)
		}
	}
}

// P6.1: the chapter's examples, and each end of what a ship needs.
func TestGoesExamples(t *testing.T) {
	for _, x := range []struct {
		c     api.ShipCall
		swell int
		want  bool
	}{
		{call(0, 10), 0, true}, {call(0, 10), 1, false}, // the tide 1, and just deep enough
		{call(0, 6), 0, false}, {call(0, 17), 0, false}, // too low a tide
		{call(0, 2), 0, false}, {call(0, 20), 0, false}, {call(0, 5), 0, false}, {call(0, 18), 0, false}, // no light
		{call(1, 8), 3, true}, {call(1, 9), 3, false}, {call(1, 9), 2, true}, {call(1, 7), 2, false},
	} {
		if is := goes(t, chapterPass(), x.c, x.swell); is != x.want {
			t.Error(x, is)
		}
	}
}

// P6.1: the tide goes on over midnight, whatever its period is.
func TestTidesGoOn(t *testing.T) {
	for period := 1; period <= api.ShipPeriod; period++ {
		p := api.ShipPass{Tides: make([]int, period), Depth: 1, Draft: 2, Swell: make([]api.Span, api.ShipDays), Light: span(0, 23)}
		p.Tides[0] = 1
		hour := 0
		for day := range p.Swell {
			var want []int
			for ; hour < 24*(day+1); hour += period {
				want = append(want, hour-24*day)
			}
			if sure, _ := hours(t, p, day); !slices.Equal(sure, want) {
				t.Fatal(period, day, sure, want)
			}
		}
	}
}

// P6.1: what is told of each hour is what the chapter says; a ship can go through sure hours in each swell, and through others that are not told in none.
func TestHoursAllSwells(t *testing.T) {
	r := rand.New(rand.NewSource(81))
	var seen [3]int
	for range 300 {
		p := randomPass(r, 1+r.Intn(6))
		old := clonePass(p)
		for day, swell := range p.Swell {
			sure, perhaps := hours(t, p, day)
			for hour := range 24 {
				count := 0
				for n := swell.Low; n <= swell.High; n++ {
					is := goes(t, p, call(day, hour), n)
					if is != plainGoes(p, call(day, hour), n) {
						t.Fatal(p, day, hour, n, is)
					}
					if is {
						count++
					}
				}
				all := count == swell.High-swell.Low+1
				if slices.Contains(sure, hour) != all || slices.Contains(perhaps, hour) != (count > 0) {
					t.Fatal(p, day, hour, sure, perhaps, count)
				}
				switch {
				case all:
					seen[2]++
				case count > 0:
					seen[1]++
				default:
					seen[0]++
				}
			}
			if !slices.IsSorted(sure) || !slices.IsSorted(perhaps) {
				t.Fatal(sure, perhaps)
			}
			wantOwnHours(t, p, day)
		}
		if !samePass(p, old) {
			t.Fatal("changed", p, old)
		}
	}
	if slices.Min(seen[:]) < 500 {
		t.Error(seen)
	}
}

// wantOwnHours asks whether both results, and those of another call, share no memory.
func wantOwnHours(t *testing.T, p api.ShipPass, day int) {
	t.Helper()
	sure, perhaps := hours(t, p, day)
	again, also := slices.Clone(sure), slices.Clone(perhaps)
	for k := range sure {
		sure[k] = -1
	}
	if !slices.Equal(perhaps, also) {
		t.Fatal("shared", p, day)
	}
	for k := range perhaps {
		perhaps[k] = -1
	}
	if sure, perhaps = hours(t, p, day); !slices.Equal(sure, again) || !slices.Equal(perhaps, also) {
		t.Fatal("kept", p, day)
	}
}

// P6.1: the chapter's examples.
func TestNextExamples(t *testing.T) {
	for _, x := range []struct {
		from, want api.ShipCall
		e          api.Errno
	}{
		{call(0, 10), call(0, 13), api.OK}, {call(0, 16), call(1, 8), api.OK}, {call(1, 15), api.ShipCall{}, api.ErrNone},
		{call(0, 0), call(0, 7), api.OK}, {call(0, 7), call(0, 7), api.OK}, {call(0, 23), call(1, 8), api.OK}, {call(1, 14), call(1, 14), api.OK}, {call(1, 23), api.ShipCall{}, api.ErrNone},
	} {
		if to, e := ship.Next(chapterPass(), x.from); e != x.e || to != x.want {
			t.Error(x, to, e)
		}
	}
}

// P6.1: from each hour on, the next call is the first of all sure ones.
func TestNextOfAll(t *testing.T) {
	r := rand.New(rand.NewSource(82))
	seen := map[api.Errno]int{}
	for range 300 {
		p := randomPass(r, 1+r.Intn(5))
		sure := plainSure(p)
		for day := range p.Swell {
			for hour := range 24 {
				for len(sure) > 0 && compareCalls(sure[0], call(day, hour)) < 0 {
					sure = sure[1:]
				}
				to, e := ship.Next(p, call(day, hour))
				seen[e]++
				if len(sure) == 0 && (e != api.ErrNone || to != (api.ShipCall{})) || len(sure) > 0 && (e != api.OK || to != sure[0]) {
					t.Fatal(p, day, hour, to, e)
				}
			}
		}
	}
	if seen[api.OK] < 1000 || seen[api.ErrNone] < 1000 {
		t.Error(seen)
	}
}

// weeklyPass returns a pass that is open on some days only, in the same hour.
func weeklyPass(days, hour int, open ...int) api.ShipPass {
	p := api.ShipPass{Tides: []int{0}, Depth: 10, Draft: 10, Light: exactly(hour)}
	for day := range days {
		swell := span(0, 1)
		if slices.Contains(open, day) {
			swell = exactly(0)
		}
		p.Swell = append(p.Swell, swell)
	}
	return p
}

// P6.2: the chapter's examples, and both ends of gaps.
func TestCallsExamples(t *testing.T) {
	week := weeklyPass(60, 9, 1, 5, 6, 11, 15, 16, 59)
	at := func(days ...int) []api.ShipCall {
		var calls []api.ShipCall
		for _, day := range days {
			calls = append(calls, call(day, 9))
		}
		return calls
	}
	for _, x := range []struct {
		name string
		p    api.ShipPass
		gap  api.Span
		many int
		want []api.ShipCall
	}{
		{"one", chapterPass(), span(1, 2), 1, []api.ShipCall{call(1, 8)}},
		{"two", chapterPass(), span(1, 2), 2, nil},
		{"too late", chapterPass(), span(2, 9), 1, nil},
		{"not on the day 0", weeklyPass(5, 9, 0), span(1, 5), 1, nil},
		{"the first gap is too long", week, exactly(4), 1, nil},
		{"greedy", week, span(1, 5), 3, at(1, 5, 6)},
		{"not the first day", week, span(5, 10), 2, at(5, 11)},
		{"on the last day of a gap", week, span(1, 43), 7, at(1, 5, 6, 11, 15, 16, 59)},
		{"a day more than the gap", week, span(1, 42), 7, nil},
		{"all in vain but one", week, span(4, 6), 3, at(5, 11, 15)},
		{"too many", week, span(1, 60), 8, nil},
		{"a gap past the end", week, exactly(60), 1, nil},
		{"the last day", week, span(17, 60), 1, at(59)},
	} {
		calls, e := ship.Calls(x.p, x.gap, x.many)
		if (e == api.ErrNone) != (x.want == nil) || e != api.OK && e != api.ErrNone || !slices.Equal(calls, x.want) {
			t.Errorf("%s: %v %v", x.name, calls, e)
		}
	}
	// the day 5 is left for the day 6, as no call comes five days after it
	if calls, e := ship.Calls(weeklyPass(60, 9, 5, 6, 11), exactly(5), 2); e != api.ErrNone || len(calls) != 0 {
		t.Error(calls, e)
	}
	if calls, e := ship.Calls(weeklyPass(60, 9, 5, 6, 11), span(5, 6), 2); e != api.OK || !slices.Equal(calls, at(5, 11)) {
		t.Error(calls, e)
	}
	if calls, e := ship.Calls(weeklyPass(60, 9, 5, 6, 12), span(5, 6), 2); e != api.OK || !slices.Equal(calls, at(6, 12)) {
		t.Error(calls, e)
	}
}

// P6.2: the first calls of all lists of calls.
func TestCallsOfAll(t *testing.T) {
	r := rand.New(rand.NewSource(83))
	seen := map[api.Errno]int{}
	for range 3000 {
		p := randomPass(r, 3+r.Intn(8))
		if r.Intn(3) > 0 { // few hours of light, so that days are closed now and then
			p.Light.High = min(p.Light.High, p.Light.Low+2)
		}
		gap, many := randomSpan(r, 1, 3, 3), 1+r.Intn(3)
		old := clonePass(p)
		calls, e := ship.Calls(p, gap, many)
		seen[e]++
		expected := plainCalls(p, gap, many)
		if (e == api.OK) != (expected != nil) || e != api.OK && e != api.ErrNone || !slices.Equal(calls, expected) || !samePass(p, old) {
			t.Fatal(p, gap, many, calls, e, expected)
		}
		for k := range calls {
			calls[k] = api.ShipCall{}
		}
		if again, _ := ship.Calls(p, gap, many); !slices.Equal(again, expected) {
			t.Fatal("kept", again, expected)
		}
	}
	if seen[api.OK] < 500 || seen[api.ErrNone] < 500 {
		t.Error(seen)
	}
}

// P6.2: in long passes, each call is possible whatever the swell is, and no calls that somebody proposes come before.
func TestCallsProposed(t *testing.T) {
	r := rand.New(rand.NewSource(84))
	proposals := 0
	for range 500 {
		p := randomPass(r, 20+r.Intn(api.ShipDays-19))
		gap, many := randomSpan(r, 1, 12, 8), 1+r.Intn(api.ShipCalls)
		calls, e := ship.Calls(p, gap, many)
		sure := plainSure(p)
		day := 0
		for _, c := range calls {
			if !slices.Contains(sure, c) || !plainIsNext(gap, day, c) {
				t.Fatal(p, gap, many, calls)
			}
			day = c.Day
		}
		if e == api.OK && len(calls) != many {
			t.Fatal(p, gap, many, calls)
		}
		for range 20 {
			proposed := propose(r, sure, gap, many)
			if proposed == nil {
				continue
			}
			proposals++
			if e != api.OK || slices.CompareFunc(proposed, calls, compareCalls) < 0 {
				t.Fatal(p, gap, many, calls, e, proposed)
			}
		}
	}
	if proposals < 1000 {
		t.Error(proposals)
	}
}

// propose returns some calls of all lists of calls, or nil if it finds none.
func propose(r *rand.Rand, sure []api.ShipCall, gap api.Span, many int) []api.ShipCall {
	var calls []api.ShipCall
	day := 0
	for range many {
		var next []api.ShipCall
		for _, c := range sure {
			if plainIsNext(gap, day, c) {
				next = append(next, c)
			}
		}
		if len(next) == 0 {
			return nil
		}
		c := next[r.Intn(len(next))/(1+r.Intn(4))]
		calls, day = append(calls, c), c.Day
	}
	return calls
}

// P6.2: a search that ends without calls ends soon, though there are very many lists of almost as many calls.
func TestCallsInVain(t *testing.T) {
	p := api.ShipPass{Tides: []int{0}, Depth: 10, Draft: 10, Light: span(0, 23), Swell: make([]api.Span, api.ShipDays)}
	if calls, e := ship.Calls(p, span(1, api.ShipGap), api.ShipCalls); e != api.OK || len(calls) != api.ShipCalls || calls[7] != call(8, 0) {
		t.Error(calls, e)
	}
	if calls, e := ship.Calls(p, span(8, api.ShipGap), api.ShipCalls); e != api.ErrNone || len(calls) != 0 {
		t.Error(calls, e)
	}
	for day := 7; day < api.ShipDays; day++ {
		p.Swell[day] = exactly(1)
	}
	p.Swell[59] = exactly(0)
	if calls, e := ship.Calls(p, span(1, 51), api.ShipCalls); e != api.ErrNone || len(calls) != 0 {
		t.Error(calls, e)
	}
}
