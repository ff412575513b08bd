package reef_test

import (
	"math"
	"math/rand"
	"slices"
	"testing"

	"motu/api"
	"motu/reef"
)

func play(t *testing.T, r api.Reef, plan []int, x api.ReefTruth) ([][]int, api.ReefLedger) {
	t.Helper()
	ends, ledger, e := reef.Play(r, plan, x)
	if e != api.OK || len(ends) != r.Seasons {
		t.Fatal(r, plan, x, ends, e)
	}
	for _, row := range ends {
		if len(row) != len(r.Places) {
			t.Fatal(r, plan, x, ends)
		}
	}
	return ends, ledger
}

// P3.1: the chapter's example.
func TestPlayExample(t *testing.T) {
	ends, x := play(t, chapterReef(), []int{0, 0}, chapterTruth())
	if !sameRows(ends, [][]int{{988, 619}, {867, 698}}) {
		t.Error(ends)
	}
	if x != (api.ReefLedger{Start: 1650, Grown: 615, Taken: 700, Left: 1565}) {
		t.Error(x)
	}
}

// onlyTruth returns the truth of a reef that is known exactly, with the fish of which divers count all.
func onlyTruth(r api.Reef) api.ReefTruth { return worstTruth(r, make([]int, r.Seasons), -1, 0) }

// P3.1: each step of a season alone, at its roundings and bounds.
func TestPlaySteps(t *testing.T) {
	for _, x := range []struct {
		name  string
		place api.ReefPlace
		left  int
		book  api.ReefLedger
	}{
		{"nothing", api.ReefPlace{Count: 50, Into: -1}, 50, api.ReefLedger{Start: 50, Left: 50}},
		{"no fish", api.ReefPlace{Room: 50, Grow: exactly(2000), Drift: 1000, Into: -1, Open: exactly(9)}, 0, api.ReefLedger{}},
		{"growth is rounded down", api.ReefPlace{Count: 59, Room: 99, Grow: exactly(50), Into: -1}, 61, api.ReefLedger{Start: 59, Grown: 2, Left: 61}},
		{"just room enough", api.ReefPlace{Count: 90, Room: 99, Grow: exactly(100), Into: -1}, 99, api.ReefLedger{Start: 90, Grown: 9, Left: 99}},
		{"no room for all", api.ReefPlace{Count: 90, Room: 98, Grow: exactly(100), Into: -1}, 98, api.ReefLedger{Start: 90, Grown: 8, Left: 98}},
		{"room for one", api.ReefPlace{Count: 90, Room: 91, Grow: exactly(2000), Into: -1}, 91, api.ReefLedger{Start: 90, Grown: 1, Left: 91}},
		{"as many as there is room for", api.ReefPlace{Count: 90, Room: 90, Grow: exactly(2000), Into: -1}, 90, api.ReefLedger{Start: 90, Left: 90}},
		{"more than there is room for", api.ReefPlace{Count: 90, Room: 80, Grow: exactly(2000), Into: -1}, 90, api.ReefLedger{Start: 90, Left: 90}},
		{"greatest growth", api.ReefPlace{Count: 30, Room: 99, Grow: exactly(2000), Into: -1}, 90, api.ReefLedger{Start: 30, Grown: 60, Left: 90}},
		{"what drifts is rounded down", api.ReefPlace{Count: 59, Drift: 50, Into: -1}, 57, api.ReefLedger{Start: 59, Gone: 2, Left: 57}},
		{"all drift", api.ReefPlace{Count: 59, Drift: 1000, Into: -1}, 0, api.ReefLedger{Start: 59, Gone: 59}},
		{"they drift after growing", api.ReefPlace{Count: 50, Room: 100, Grow: exactly(1000), Drift: 100, Into: -1}, 90, api.ReefLedger{Start: 50, Grown: 50, Gone: 10, Left: 90}},
		{"taken", api.ReefPlace{Count: 50, Into: -1, Open: exactly(49)}, 1, api.ReefLedger{Start: 50, Taken: 49, Left: 1}},
		{"all are taken", api.ReefPlace{Count: 50, Into: -1, Open: exactly(50)}, 0, api.ReefLedger{Start: 50, Taken: 50}},
		{"more would be taken", api.ReefPlace{Count: 50, Into: -1, Open: exactly(51)}, 0, api.ReefLedger{Start: 50, Taken: 50}},
		{"taken after growing", api.ReefPlace{Count: 50, Room: 100, Grow: exactly(1000), Into: -1, Open: exactly(80)}, 20, api.ReefLedger{Start: 50, Grown: 50, Taken: 80, Left: 20}},
		{"taken after they drifted", api.ReefPlace{Count: 50, Drift: 500, Into: -1, Open: exactly(30)}, 0, api.ReefLedger{Start: 50, Taken: 25, Gone: 25}},
	} {
		r := api.Reef{Places: []api.ReefPlace{x.place}, Seasons: 1}
		ends, book := play(t, r, []int{0}, onlyTruth(r))
		if ends[0][0] != x.left || book != x.book {
			t.Errorf("%s: %v %v", x.name, ends, book)
		}
	}
}

// P3.1: all fish drift at the same time, each once in a season, and more can come than there is room for.
func TestPlayDrift(t *testing.T) {
	for _, x := range []struct {
		name  string
		into  []int
		drift []int
		want  [][]int
		gone  int
	}{
		{"forward", []int{1, 2, -1}, []int{1000, 1000, 1000}, [][]int{{0, 100, 10}, {0, 0, 100}, {0, 0, 0}}, 111},
		{"backward", []int{-1, 0, 1}, []int{1000, 1000, 1000}, [][]int{{10, 1, 0}, {1, 0, 0}, {0, 0, 0}}, 111},
		{"around", []int{1, 2, 0}, []int{1000, 1000, 1000}, [][]int{{1, 100, 10}, {10, 1, 100}, {100, 10, 1}}, 0},
		{"two into one", []int{2, 2, 0}, []int{500, 500, 0}, [][]int{{50, 5, 56}, {25, 3, 83}, {13, 2, 96}}, 0},
		{"each other", []int{1, 0, -1}, []int{100, 100, 0}, [][]int{{91, 19, 1}, {83, 27, 1}, {77, 33, 1}}, 0},
	} {
		r := api.Reef{Seasons: 3}
		for k, count := range []int{100, 10, 1} {
			r.Places = append(r.Places, api.ReefPlace{Count: count, Drift: x.drift[k], Into: x.into[k], Grow: exactly(2000)})
		}
		ends, book := play(t, r, []int{0, 0, 0}, onlyTruth(r))
		if !sameRows(ends, x.want) || book != (api.ReefLedger{Start: 111, Gone: x.gone, Left: 111 - x.gone}) {
			t.Errorf("%s: %v %v", x.name, ends, book)
		}
	}
}

// P3.1: the greatest numbers, with products beyond 32 bits.
func TestPlayGreatest(t *testing.T) {
	r := api.Reef{Miss: 2000, Seasons: 4}
	x := api.ReefTruth{}
	for k := range api.ReefPlaces {
		r.Places = append(r.Places, api.ReefPlace{Count: 1000000, Room: 1000000, Grow: exactly(2000), Drift: 1000, Into: 3, Open: span(0, 1000000)})
		x.Starts = append(x.Starts, 3000000)
		x.Grows = append(x.Grows, []int{2000, 2000, 2000, 2000})
		x.Takes = append(x.Takes, []int{0, 0, 0, 1000000 * (k / 2)})
	}
	r.Places[3].Into, r.Places[3].Drift = -1, 999
	ends, book := play(t, r, []int{0, 0, 0, 0}, x)
	if !sameRows(ends, [][]int{{0, 0, 0, 9003000}, {0, 0, 0, 9003}, {0, 0, 0, 0}, {0, 0, 0, 0}}) {
		t.Error(ends)
	}
	if book != (api.ReefLedger{Start: 12000000, Grown: 18006, Taken: 28, Gone: 12017978}) {
		t.Error(book)
	}
}

// P3.1: truths that are not as defined.
func TestBadTruths(t *testing.T) {
	for _, x := range []struct {
		name   string
		change func(*api.ReefTruth)
		e      api.Errno
	}{
		{"least", func(t *api.ReefTruth) {
			*t = api.ReefTruth{Starts: []int{1000, 500}, Grows: [][]int{{200, 100}, {200, 100}}, Takes: [][]int{{200, 100}, {200, 100}}}
		}, api.OK},
		{"greatest", func(t *api.ReefTruth) {
			*t = api.ReefTruth{Starts: []int{1200, 600}, Grows: [][]int{{300, 200}, {300, 200}}, Takes: [][]int{{300, 200}, {300, 200}}}
		}, api.OK},
		{"start below", func(t *api.ReefTruth) { t.Starts[0] = 999 }, api.ErrArg},
		{"start above", func(t *api.ReefTruth) { t.Starts[0] = 1201 }, api.ErrArg},
		{"last start below", func(t *api.ReefTruth) { t.Starts[1] = 499 }, api.ErrArg},
		{"last start above", func(t *api.ReefTruth) { t.Starts[1] = 601 }, api.ErrArg},
		{"huge start", func(t *api.ReefTruth) { t.Starts[0] = math.MaxInt }, api.ErrArg},
		{"tiny start", func(t *api.ReefTruth) { t.Starts[1] = math.MinInt }, api.ErrArg},
		{"nil starts", func(t *api.ReefTruth) { t.Starts = nil }, api.ErrArg},
		{"starts short", func(t *api.ReefTruth) { t.Starts = t.Starts[:1] }, api.ErrArg},
		{"starts long", func(t *api.ReefTruth) { t.Starts = append(t.Starts, 0) }, api.ErrArg},
		{"nil grows", func(t *api.ReefTruth) { t.Grows = nil }, api.ErrArg},
		{"grows short", func(t *api.ReefTruth) { t.Grows = t.Grows[:1] }, api.ErrArg},
		{"grows long", func(t *api.ReefTruth) { t.Grows = append(t.Grows, []int{200, 100}) }, api.ErrArg},
		{"a nil row of grows", func(t *api.ReefTruth) { t.Grows[0] = nil }, api.ErrArg},
		{"a short row of grows", func(t *api.ReefTruth) { t.Grows[1] = t.Grows[1][:1] }, api.ErrArg},
		{"a long row of grows", func(t *api.ReefTruth) { t.Grows[0] = append(t.Grows[0], 200) }, api.ErrArg},
		{"growth below", func(t *api.ReefTruth) { t.Grows[0][0] = 199 }, api.ErrArg},
		{"growth above", func(t *api.ReefTruth) { t.Grows[1][1] = 201 }, api.ErrArg},
		{"nil takes", func(t *api.ReefTruth) { t.Takes = nil }, api.ErrArg},
		{"takes short", func(t *api.ReefTruth) { t.Takes = t.Takes[:1] }, api.ErrArg},
		{"takes long", func(t *api.ReefTruth) { t.Takes = append(t.Takes, []int{200, 100}) }, api.ErrArg},
		{"a nil row of takes", func(t *api.ReefTruth) { t.Takes[1] = nil }, api.ErrArg},
		{"a short row of takes", func(t *api.ReefTruth) { t.Takes[0] = t.Takes[0][:1] }, api.ErrArg},
		{"a long row of takes", func(t *api.ReefTruth) { t.Takes[1] = append(t.Takes[1], 100) }, api.ErrArg},
		{"take below", func(t *api.ReefTruth) { t.Takes[0][0] = 199 }, api.ErrArg},
		{"take above", func(t *api.ReefTruth) { t.Takes[1][1] = 201 }, api.ErrArg},
		{"zero value", func(t *api.ReefTruth) { *t = api.ReefTruth{} }, api.ErrArg},
	} {
		truth := chapterTruth()
		x.change(&truth)
		l, ledger, e := reef.Play(chapterReef(), []int{0, 0}, truth)
		if e != x.e || e != api.OK && (len(l) != 0 || ledger != (api.ReefLedger{})) {
			t.Errorf("%s: %v %v %v", x.name, l, ledger, e)
		}
	}
}

// P3.1: of a closed place others are taken, in its season only.
func TestPlayClosed(t *testing.T) {
	for _, x := range []struct {
		plan  []int
		takes [][]int
		e     api.Errno
	}{
		{[]int{1, 0}, [][]int{{50, 100}, {200, 100}}, api.OK},
		{[]int{1, 0}, [][]int{{0, 200}, {300, 200}}, api.OK},
		{[]int{1, 0}, [][]int{{51, 100}, {200, 100}}, api.ErrArg},
		{[]int{1, 0}, [][]int{{200, 100}, {200, 100}}, api.ErrArg},
		{[]int{1, 0}, [][]int{{50, 100}, {50, 100}}, api.ErrArg},
		{[]int{1, 0}, [][]int{{50, 20}, {200, 100}}, api.ErrArg},
		{[]int{0, 2}, [][]int{{200, 100}, {200, 20}}, api.OK},
		{[]int{0, 2}, [][]int{{200, 100}, {50, 20}}, api.ErrArg},
		{[]int{0, 2}, [][]int{{200, 100}, {200, 21}}, api.ErrArg},
		{[]int{3, 3}, [][]int{{0, 0}, {50, 20}}, api.OK},
		{[]int{3, 3}, [][]int{{0, -1}, {50, 20}}, api.ErrArg},
	} {
		truth := chapterTruth()
		truth.Takes = x.takes
		if _, _, e := reef.Play(chapterReef(), x.plan, truth); e != x.e {
			t.Error(x.plan, x.takes, e)
		}
	}
}

// P3.1: there can be at first just the fish of which divers can count what they did.
func TestPlayStarts(t *testing.T) {
	for _, miss := range []int{0, 1, 9, 150, 999, 1000, 1001, 1999, 2000} {
		for count := range 25 {
			r := api.Reef{Places: []api.ReefPlace{{Count: count, Into: -1}}, Miss: miss, Seasons: 1}
			for fish := -1; fish < 80; fish++ {
				want := api.ErrArg
				if plainCanCount(count, fish, miss) {
					want = api.OK
				}
				x := api.ReefTruth{Starts: []int{fish}, Grows: [][]int{{0}}, Takes: [][]int{{0}}}
				if _, _, e := reef.Play(r, []int{0}, x); e != want {
					t.Error(miss, count, fish, e)
				}
			}
		}
	}
}

// P3.1: many reefs as the section says, with a ledger that adds up.
func TestPlayRandom(t *testing.T) {
	r := rand.New(rand.NewSource(32))
	for range 20000 {
		x := anyReef(r, 40)
		plan := randomPlan(r, x)
		truth := randomTruth(r, x, plan)
		want, book := plainPlay(x, truth)
		ends, ledger := play(t, x, plan, truth)
		if !sameRows(ends, want) || ledger != book {
			t.Fatal(x, plan, truth, ends, ledger, want, book)
		}
		if ledger.Start+ledger.Grown != ledger.Taken+ledger.Gone+ledger.Left {
			t.Fatal(x, plan, truth, ledger)
		}
		if last := ends[len(ends)-1]; slices.Min(last) < 0 {
			t.Fatal(x, plan, truth, ends)
		}
	}
}
