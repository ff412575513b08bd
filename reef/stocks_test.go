package reef_test

import (
	"math/rand"
	"slices"
	"testing"

	"motu/api"
	"motu/reef"
)

func stocks(t *testing.T, r api.Reef, plan []int) [][]api.Span {
	t.Helper()
	return rowsOf(t, r, plan, reef.Stocks)
}

func counts(t *testing.T, r api.Reef, plan []int) [][]api.Span {
	t.Helper()
	return rowsOf(t, r, plan, reef.Counts)
}

func rowsOf(t *testing.T, r api.Reef, plan []int, tell func(api.Reef, []int) ([][]api.Span, api.Errno)) [][]api.Span {
	t.Helper()
	rows, e := tell(r, plan)
	if e != api.OK || len(rows) != r.Seasons {
		t.Fatal(r, plan, rows, e)
	}
	for _, row := range rows {
		if len(row) != len(r.Places) {
			t.Fatal(r, plan, rows)
		}
	}
	return rows
}

// P3.2: the chapter's examples, and plans near them.
func TestStocksExamples(t *testing.T) {
	for _, x := range []struct {
		plan []int
		want [][]api.Span
	}{
		{[]int{0, 0}, [][]api.Span{{span(780, 1204), span(470, 776)}, {span(543, 1209), span(410, 856)}}},
		{[]int{1, 1}, [][]api.Span{{span(1030, 1404), span(470, 776)}, {span(1063, 1643), span(440, 882)}}},
		{[]int{2, 0}, [][]api.Span{{span(780, 1204), span(650, 876)}, {span(543, 1209), span(608, 932)}}},
		{[]int{0, 2}, [][]api.Span{{span(780, 1204), span(470, 776)}, {span(543, 1209), span(590, 956)}}},
	} {
		if rows := stocks(t, chapterReef(), x.plan); !sameSpans(rows, x.want) {
			t.Error(x.plan, rows)
		}
	}
	if rows := counts(t, chapterReef(), []int{0, 0}); !sameSpans(rows, [][]api.Span{{span(650, 1204), span(392, 776)}, {span(453, 1209), span(342, 856)}}) {
		t.Error(rows)
	}
}

// P3.2: where divers miss no fish, stocks are narrower, and are their counts.
func TestNoMiss(t *testing.T) {
	r := chapterReef()
	r.Miss = 0
	rows := stocks(t, r, []int{0, 0})
	if rows[0][0] != span(780, 970) {
		t.Error(rows)
	}
	if c := counts(t, r, []int{0, 0}); !sameSpans(c, rows) {
		t.Error(c, rows)
	}
}

// P3.2: the greatest stocks, and their counts.
func TestGreatestStocks(t *testing.T) {
	r := api.Reef{Miss: 2000, Seasons: 4}
	for range api.ReefPlaces {
		r.Places = append(r.Places, api.ReefPlace{Count: 1000000, Room: 1000000, Grow: span(0, 2000), Drift: 1000, Into: 3})
	}
	r.Places[3].Into, r.Places[3].Drift = -1, 0
	plan := []int{0, 0, 0, 0}
	zero, all := exactly(0), span(4000000, 12000000)
	if rows := stocks(t, r, plan); !sameSpans(rows, slices.Repeat([][]api.Span{{zero, zero, zero, all}}, 4)) {
		t.Error(rows)
	}
	if rows := counts(t, r, plan); rows[0][3] != span(1333334, 12000000) || rows[3][0] != zero {
		t.Error(rows)
	}
}

// fewTruths returns a reef with a plan, of which truths can be gone through one by one.
func fewTruths(r *rand.Rand) (api.Reef, []int) {
	size := [][2]int{{1, 1}, {1, 2}, {2, 1}, {1, 3}, {3, 1}, {2, 2}}[r.Intn(6)]
	numbers := 40
	if size[0]*size[1] > 3 {
		numbers = 2
	}
	x := randomReef(r, size[0], size[1], numbers)
	if r.Intn(2) == 0 {
		x.Miss = r.Intn(30)
	}
	return x, randomPlan(r, x)
}

// P3.2: each end of a stock is one of some truth, and no truth lies outside.
func TestStocksAllTruths(t *testing.T) {
	r := rand.New(rand.NewSource(33))
	for range 300 {
		x, plan := fewTruths(r)
		var want [][]api.Span
		plainTruths(x, plan, func(truth api.ReefTruth) {
			ends, _ := plainPlay(x, truth)
			if want == nil {
				for _, row := range ends {
					spans := make([]api.Span, len(row))
					for k, n := range row {
						spans[k] = exactly(n)
					}
					want = append(want, spans)
				}
			}
			for s, row := range ends {
				for k, n := range row {
					want[s][k] = span(min(want[s][k].Low, n), max(want[s][k].High, n))
				}
			}
		})
		if rows := stocks(t, x, plan); !sameSpans(rows, want) {
			t.Fatal(x, plan, rows, want)
		}
	}
}

func holds(s api.Span, n int) bool { return s.Low <= n && n <= s.High }

// P3.2: in large reefs, too, all truths lie within the stocks, and what divers count within the counts.
func TestStocksRandomTruths(t *testing.T) {
	r := rand.New(rand.NewSource(34))
	for range 1000 {
		x := anyReef(r, 40)
		plan := randomPlan(r, x)
		rows, seen := stocks(t, x, plan), counts(t, x, plan)
		for range 30 {
			truth := randomTruth(r, x, plan)
			ends, _ := play(t, x, plan, truth)
			for s, row := range ends {
				for k, n := range row {
					count := n
					for count > 0 && r.Intn(10) > 0 && plainCanCount(count-1, n, x.Miss) {
						count--
					}
					if !holds(rows[s][k], n) || !holds(seen[s][k], count) {
						t.Fatal(x, plan, truth, s, k, n, count, rows, seen)
					}
				}
			}
		}
	}
}

// P3.2: both ends of all stocks are those of two truths.
func TestStocksEnds(t *testing.T) {
	r := rand.New(rand.NewSource(35))
	for range 3000 {
		x := anyReef(r, 40)
		plan := randomPlan(r, x)
		worst := worstTruth(x, plan, -1, 0)
		best := cloneTruth(worst)
		for k, p := range x.Places {
			best.Starts[k] += p.Count * x.Miss / 1000
			for s, closed := range plan {
				best.Grows[s][k] = p.Grow.High
				best.Takes[s][k] = plainTakes(p, closed, k, noLimit).Low
			}
		}
		few, _ := play(t, x, plan, worst)
		many, _ := play(t, x, plan, best)
		for s, row := range stocks(t, x, plan) {
			for k, stock := range row {
				if stock != span(few[s][k], many[s][k]) {
					t.Fatal(x, plan, s, k, stock, few, many)
				}
			}
		}
	}
}

// P3.2: counts are those that divers can make of some number of a stock.
func TestCountsRandom(t *testing.T) {
	r := rand.New(rand.NewSource(36))
	for range 300 {
		x := anyReef(r, 40)
		x.Miss = r.Intn(api.ReefRate + 1)
		plan := randomPlan(r, x)
		seen := counts(t, x, plan)
		for s, row := range stocks(t, x, plan) {
			for k, stock := range row {
				least, most := -1, -1
				for n := stock.Low; n <= stock.High; n++ {
					for count := 0; count <= n; count++ {
						if plainCanCount(count, n, x.Miss) {
							if least < 0 || count < least {
								least = count
							}
							most = max(most, count)
						}
					}
				}
				if seen[s][k] != span(least, most) {
					t.Fatal(x, plan, s, k, stock, seen[s][k], least, most)
				}
			}
		}
	}
}

// P3.2: the least count of some fish, at its roundings.
func TestCountsOfFish(t *testing.T) {
	for _, x := range []struct{ fish, miss, least int }{
		{0, 0, 0}, {0, 2000, 0}, {1, 0, 1}, {1, 2000, 1}, {2, 2000, 1}, {3, 2000, 1}, {4, 2000, 2}, {5, 1000, 3}, {6, 1000, 3},
		{780, 200, 650}, {781, 200, 651}, {779, 200, 650}, {778, 200, 649}, {10, 99, 10}, {11, 99, 11}, {11, 100, 10}, {1000000, 2000, 333334}, {1000000, 1, 999001}, {999999, 1, 999000}, {999998, 1, 999000},
	} {
		r := api.Reef{Places: []api.ReefPlace{{Count: x.fish, Into: -1}}, Miss: x.miss, Seasons: 1}
		if rows := counts(t, r, []int{0}); rows[0][0] != span(x.least, x.fish+x.fish*x.miss/1000) {
			t.Error(x, rows)
		}
	}
}
