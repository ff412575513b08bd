package reef_test

import (
	"math/rand"
	"slices"

	"motu/api"
)

func span(low, high int) api.Span { return api.Span{Low: low, High: high} }

func exactly(n int) api.Span { return span(n, n) }

// chapterReef returns the reef r of the chapter's examples.
func chapterReef() api.Reef {
	return api.Reef{
		Places: []api.ReefPlace{
			{Count: 1000, Room: 2000, Grow: span(200, 300), Drift: 100, Into: 1, Open: span(200, 300), Shut: span(0, 50), Goal: 900, Worth: 10},
			{Count: 500, Room: 800, Grow: span(100, 200), Drift: 0, Into: -1, Open: span(100, 200), Shut: span(0, 20), Goal: 450, Worth: 6},
		},
		Miss: 200, Seasons: 2,
	}
}

// chapterTruth returns the truth of the chapter's first example.
func chapterTruth() api.ReefTruth {
	return api.ReefTruth{Starts: []int{1100, 550}, Grows: [][]int{{250, 150}, {200, 100}}, Takes: [][]int{{250, 150}, {200, 100}}}
}

func cloneReef(r api.Reef) api.Reef {
	r.Places = slices.Clone(r.Places)
	return r
}

func sameReef(a, b api.Reef) bool {
	return slices.Equal(a.Places, b.Places) && a.Miss == b.Miss && a.Seasons == b.Seasons
}

func cloneRows(rows [][]int) [][]int {
	var all [][]int
	for _, row := range rows {
		all = append(all, slices.Clone(row))
	}
	return all
}

func sameRows(a, b [][]int) bool { return slices.EqualFunc(a, b, slices.Equal) }

func sameSpans(a, b [][]api.Span) bool { return slices.EqualFunc(a, b, slices.Equal) }

func cloneTruth(t api.ReefTruth) api.ReefTruth {
	return api.ReefTruth{Starts: slices.Clone(t.Starts), Grows: cloneRows(t.Grows), Takes: cloneRows(t.Takes)}
}

func sameTruth(a, b api.ReefTruth) bool {
	return slices.Equal(a.Starts, b.Starts) && sameRows(a.Grows, b.Grows) && sameRows(a.Takes, b.Takes)
}

// plainPlay is the steps of the section 'What is true', written down a second time, for any takes.
func plainPlay(r api.Reef, t api.ReefTruth) ([][]int, api.ReefLedger) {
	var ends [][]int
	var x api.ReefLedger
	now := slices.Clone(t.Starts)
	for _, n := range now {
		x.Start += n
	}
	for s := range r.Seasons {
		next := make([]int, len(now))
		for k, p := range r.Places {
			n := now[k]
			if n < p.Room {
				n += n * t.Grows[s][k] / 1000
				if n > p.Room {
					n = p.Room
				}
			}
			x.Grown += n - now[k]
			away := n * p.Drift / 1000
			next[k] += n - away
			if p.Into < 0 {
				x.Gone += away
			} else {
				next[p.Into] += away
			}
		}
		for k := range next {
			if next[k] < t.Takes[s][k] {
				x.Taken += next[k]
				next[k] = 0
			} else {
				x.Taken += t.Takes[s][k]
				next[k] -= t.Takes[s][k]
			}
		}
		ends = append(ends, next)
		now = next
	}
	for _, n := range now {
		x.Left += n
	}
	return ends, x
}

func plainCanCount(count, fish, miss int) bool {
	return count <= fish && fish <= count+count*miss/1000
}

// plainTakes returns how many fish can be taken of a place in a season; where it is open, at most some number.
func plainTakes(p api.ReefPlace, closed, place, limit int) api.Span {
	if closed&(1<<place) != 0 {
		return p.Shut
	}
	return span(min(p.Open.Low, limit), min(p.Open.High, limit))
}

const noLimit = api.ReefFish

// worstTruth returns the truth with the fewest fish, if of one place at most some number is taken where it is open.
func worstTruth(r api.Reef, plan []int, limited, limit int) api.ReefTruth {
	var t api.ReefTruth
	for _, p := range r.Places {
		t.Starts = append(t.Starts, p.Count)
	}
	for _, closed := range plan {
		var grows, takes []int
		for k, p := range r.Places {
			most := noLimit
			if k == limited {
				most = limit
			}
			grows = append(grows, p.Grow.Low)
			takes = append(takes, plainTakes(p, closed, k, most).High)
		}
		t.Grows, t.Takes = append(t.Grows, grows), append(t.Takes, takes)
	}
	return t
}

// plainShort returns the first place that is short in the worst truth, and by how much; -1 if none is.
func plainShort(r api.Reef, plan []int, limited, limit int) (int, int) {
	ends, _ := plainPlay(r, worstTruth(r, plan, limited, limit))
	for k, n := range ends[len(ends)-1] {
		if n < r.Places[k].Goal {
			return k, r.Places[k].Goal - n
		}
	}
	return -1, 0
}

// numbers returns some numbers of a span, with both ends; of a short one, all.
func numbers(s api.Span) []int {
	if s.High-s.Low > 2 {
		return []int{s.Low, (s.Low + s.High) / 2, s.High}
	}
	return all(s)
}

func all(s api.Span) []int {
	var list []int
	for n := s.Low; n <= s.High; n++ {
		list = append(list, n)
	}
	return list
}

// plainTruths goes through truths of a reef with a plan, with all numbers of short spans.
func plainTruths(r api.Reef, plan []int, visit func(api.ReefTruth)) {
	var lists [][]int
	for _, p := range r.Places {
		most := p.Count
		for plainCanCount(p.Count, most+1, r.Miss) {
			most++
		}
		lists = append(lists, numbers(span(p.Count, most)))
	}
	for _, closed := range plan {
		for _, p := range r.Places {
			lists = append(lists, numbers(p.Grow))
		}
		for k, p := range r.Places {
			lists = append(lists, numbers(plainTakes(p, closed, k, noLimit)))
		}
	}
	places := len(r.Places)
	eachChoice(lists, func(all []int) {
		t := api.ReefTruth{Starts: all[:places]}
		for s := range plan {
			from := places * (1 + 2*s)
			t.Grows = append(t.Grows, all[from:from+places])
			t.Takes = append(t.Takes, all[from+places:from+2*places])
		}
		visit(t)
	})
}

// eachChoice goes through all choices of one number of each list, in lexicographic order.
func eachChoice(lists [][]int, visit func([]int)) {
	choice := make([]int, len(lists))
	var next func(k int)
	next = func(k int) {
		if k == len(lists) {
			visit(choice)
			return
		}
		for _, choice[k] = range lists[k] {
			next(k + 1)
		}
	}
	next(0)
}

// plainPlans returns all plans in lexicographic order.
func plainPlans(places, seasons int) [][]int {
	var plans, lists [][]int
	for range seasons {
		lists = append(lists, all(span(0, 1<<places-1)))
	}
	eachChoice(lists, func(plan []int) { plans = append(plans, slices.Clone(plan)) })
	return plans
}

func plainCost(r api.Reef, plan []int) int {
	cost := 0
	for _, closed := range plan {
		for k, p := range r.Places {
			if closed&(1<<k) != 0 {
				cost += p.Worth
			}
		}
	}
	return cost
}

func within(r *rand.Rand, s api.Span) int { return s.Low + r.Intn(s.High-s.Low+1) }

// randomSpan returns a span from 0 to most, of at most so many numbers.
func randomSpan(r *rand.Rand, most, numbers int) api.Span {
	low := r.Intn(most + 1)
	return span(low, min(most, low+r.Intn(numbers)))
}

// randomReef returns a reef with few fish, in which much rounds; its spans have at most so many numbers.
func randomReef(r *rand.Rand, places, seasons, numbers int) api.Reef {
	x := api.Reef{Miss: r.Intn(400), Seasons: seasons}
	for k := range places {
		into := r.Intn(places+1) - 1
		if into == k {
			into = -1
		}
		p := api.ReefPlace{Count: r.Intn(100), Room: r.Intn(200), Grow: randomSpan(r, 600, numbers), Into: into, Open: randomSpan(r, 30, numbers), Goal: r.Intn(60), Worth: r.Intn(4)}
		p.Shut = span(r.Intn(p.Open.Low+1), 0)
		p.Shut.High = p.Shut.Low + r.Intn(min(numbers, p.Open.High-p.Shut.Low+1))
		if r.Intn(4) > 0 {
			p.Drift = r.Intn(500)
		}
		if r.Intn(12) == 0 {
			p.Drift = 1000
		}
		x.Places = append(x.Places, p)
	}
	return x
}

func anyReef(r *rand.Rand, numbers int) api.Reef {
	return randomReef(r, 1+r.Intn(api.ReefPlaces), 1+r.Intn(api.ReefSeasons), numbers)
}

func randomPlan(r *rand.Rand, x api.Reef) []int {
	plan := make([]int, x.Seasons)
	for s := range plan {
		plan[s] = r.Intn(1 << len(x.Places))
	}
	return plan
}

func randomTruth(r *rand.Rand, x api.Reef, plan []int) api.ReefTruth {
	var t api.ReefTruth
	for _, p := range x.Places {
		t.Starts = append(t.Starts, within(r, span(p.Count, p.Count+p.Count*x.Miss/1000)))
	}
	for _, closed := range plan {
		var grows, takes []int
		for k, p := range x.Places {
			grows = append(grows, within(r, p.Grow))
			takes = append(takes, within(r, plainTakes(p, closed, k, noLimit)))
		}
		t.Grows, t.Takes = append(t.Grows, grows), append(t.Takes, takes)
	}
	return t
}
