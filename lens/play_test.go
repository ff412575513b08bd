package lens_test

import (
	"math/rand"
	"slices"
	"testing"

	"motu/api"
	"motu/lens"
)

func play(t *testing.T, i api.LensIslet, tanks int, x api.LensTruth) ([]api.LensSeen, api.LensLedger) {
	t.Helper()
	ends, ledger, e := lens.Play(i, tanks, x)
	if e != api.OK || len(ends) != len(i.Months) {
		t.Fatal(i, tanks, x, ends, e)
	}
	return ends, ledger
}

// P1.1: the chapter's example.
func TestPlayExample(t *testing.T) {
	ends, x := play(t, chapterIslet(), 12, chapterTruth())
	if !slices.Equal(ends, []api.LensSeen{{Tanks: 70, Lens: 630}, {Tanks: 20, Lens: 567}, {Lens: 481}}) {
		t.Error(ends)
	}
	if x != (api.LensLedger{Start: 520, Rain: 320, Used: 150, Leak: 189, Sea: 20, Kept: 481}) {
		t.Error(x)
	}
}

// oneMonth returns an islet with a single wet month, and its truth, in which nothing happens yet.
func oneMonth(water, rain, need int) (api.LensIslet, api.LensTruth) {
	i := api.LensIslet{Cap: 100, Start: span(water, water), Size: 10, Months: []api.LensMonth{{Wet: span(rain, rain), Need: span(need, need)}}}
	return i, api.LensTruth{Start: water, Dry: []bool{n}, Rains: []int{rain}, Needs: []int{need}}
}

// P1.1: each step of a month alone, at its roundings and bounds.
func TestPlaySteps(t *testing.T) {
	for _, x := range []struct {
		name  string
		water int
		rain  int
		need  int
		tanks int
		set   func(i *api.LensIslet)
		end   api.LensSeen
		book  api.LensLedger
	}{
		{"nothing", 50, 0, 0, 0, func(i *api.LensIslet) {}, api.LensSeen{Lens: 50}, api.LensLedger{Start: 50, Kept: 50}},
		{"full tanks at first", 0, 0, 0, 3, func(i *api.LensIslet) {}, api.LensSeen{Tanks: 30}, api.LensLedger{Start: 30, Kept: 30}},
		{"rain on full tanks", 0, 3, 0, 1, func(i *api.LensIslet) { i.Roof = 999 }, api.LensSeen{Tanks: 10}, api.LensLedger{Start: 10, Rain: 2, Sea: 2, Kept: 10}},
		{"rain before need", 0, 3, 12, 1, func(i *api.LensIslet) { i.Roof = 1000 }, api.LensSeen{Lack: 2}, api.LensLedger{Start: 10, Rain: 3, Used: 10, Sea: 3}},
		{"rain soaks in, rounded down once", 50, 3, 0, 0, func(i *api.LensIslet) { i.Sand, i.Soak = 999, span(999, 999) }, api.LensSeen{Lens: 52}, api.LensLedger{Start: 50, Rain: 2, Kept: 52}},
		{"rain is not rounded before it soaks in", 50, 1, 0, 0, func(i *api.LensIslet) { i.Sand, i.Soak = 2999, span(667, 667) }, api.LensSeen{Lens: 52}, api.LensLedger{Start: 50, Rain: 2, Kept: 52}},
		{"a full lens", 100, 5, 0, 0, func(i *api.LensIslet) { i.Sand, i.Soak = 1000, span(1000, 1000) }, api.LensSeen{Lens: 100}, api.LensLedger{Start: 100, Rain: 5, Sea: 5, Kept: 100}},
		{"just full", 95, 5, 0, 0, func(i *api.LensIslet) { i.Sand, i.Soak = 1000, span(1000, 1000) }, api.LensSeen{Lens: 100}, api.LensLedger{Start: 95, Rain: 5, Kept: 100}},
		{"the leak is rounded down", 59, 0, 0, 0, func(i *api.LensIslet) { i.Leak = span(50, 50) }, api.LensSeen{Lens: 57}, api.LensLedger{Start: 59, Leak: 2, Kept: 57}},
		{"it leaks after the rain", 50, 50, 0, 0, func(i *api.LensIslet) { i.Sand, i.Soak, i.Leak = 1000, span(1000, 1000), span(100, 100) }, api.LensSeen{Lens: 90}, api.LensLedger{Start: 50, Rain: 50, Leak: 10, Kept: 90}},
		{"it leaks of what is not too much", 90, 50, 0, 0, func(i *api.LensIslet) { i.Sand, i.Soak, i.Leak = 1000, span(1000, 1000), span(100, 100) }, api.LensSeen{Lens: 90}, api.LensLedger{Start: 90, Rain: 50, Leak: 10, Sea: 40, Kept: 90}},
		{"all leaks away", 50, 0, 1, 0, func(i *api.LensIslet) { i.Leak, i.Pump = span(1000, 1000), 5 }, api.LensSeen{Lack: 1}, api.LensLedger{Start: 50, Leak: 50}},
		{"tanks first", 50, 0, 8, 1, func(i *api.LensIslet) { i.Pump = 5 }, api.LensSeen{Tanks: 2, Lens: 50}, api.LensLedger{Start: 60, Used: 8, Kept: 52}},
		{"just what tanks have", 50, 0, 10, 1, func(i *api.LensIslet) { i.Pump = 5 }, api.LensSeen{Lens: 50}, api.LensLedger{Start: 60, Used: 10, Kept: 50}},
		{"then the lens", 50, 0, 12, 1, func(i *api.LensIslet) { i.Pump = 5 }, api.LensSeen{Lens: 48}, api.LensLedger{Start: 60, Used: 12, Kept: 48}},
		{"at most Pump", 50, 0, 16, 1, func(i *api.LensIslet) { i.Pump = 5 }, api.LensSeen{Lens: 45, Lack: 1}, api.LensLedger{Start: 60, Used: 15, Kept: 45}},
		{"at most what is more than Keep", 50, 0, 5, 0, func(i *api.LensIslet) { i.Pump, i.Keep = 5, 46 }, api.LensSeen{Lens: 46, Lack: 1}, api.LensLedger{Start: 50, Used: 4, Kept: 46}},
		{"nothing at Keep", 50, 0, 5, 0, func(i *api.LensIslet) { i.Pump, i.Keep = 5, 50 }, api.LensSeen{Lens: 50, Lack: 5}, api.LensLedger{Start: 50, Kept: 50}},
		{"nothing below Keep", 50, 0, 5, 0, func(i *api.LensIslet) { i.Pump, i.Keep = 5, 60 }, api.LensSeen{Lens: 50, Lack: 5}, api.LensLedger{Start: 50, Kept: 50}},
		{"Keep after the leak", 50, 0, 5, 0, func(i *api.LensIslet) { i.Pump, i.Keep, i.Leak = 5, 44, span(100, 100) }, api.LensSeen{Lens: 44, Lack: 4}, api.LensLedger{Start: 50, Used: 1, Leak: 5, Kept: 44}},
		{"tanks without size", 50, 9, 5, 40, func(i *api.LensIslet) { i.Size, i.Roof = 0, 1000 }, api.LensSeen{Lens: 50, Lack: 5}, api.LensLedger{Start: 50, Rain: 9, Sea: 9, Kept: 50}},
	} {
		i, truth := oneMonth(x.water, x.rain, x.need)
		x.set(&i)
		truth.Soak, truth.Leak = i.Soak.Low, i.Leak.Low
		ends, book := play(t, i, x.tanks, truth)
		if ends[0] != x.end || book != x.book {
			t.Errorf("%s: %v %v", x.name, ends, book)
		}
	}
}

// P1.1: the greatest numbers, with products beyond 32 bits.
func TestPlayGreatest(t *testing.T) {
	i := api.LensIslet{Cap: api.LensWater, Start: span(0, api.LensWater), Roof: api.LensRoof, Sand: api.LensSand, Soak: span(0, 1000), Leak: span(0, 1000), Pump: api.LensWater, Size: api.LensWater}
	x := api.LensTruth{Start: api.LensWater, Soak: 1000}
	for range api.LensMonths {
		i.Months = append(i.Months, api.LensMonth{Wet: span(0, 2000), Need: span(0, api.LensWater)})
		x.Dry, x.Rains, x.Needs = append(x.Dry, n), append(x.Rains, 2000), append(x.Needs, api.LensWater)
	}
	ends, book := play(t, i, api.LensTanks, x)
	for m, end := range ends {
		if want := (api.LensSeen{Tanks: 390000000 - m*9800000, Lens: 10000000}); end != want {
			t.Error(m, end, want)
		}
	}
	want := api.LensLedger{Start: 410000000, Rain: 8 * 20200000, Used: 80000000, Sea: 8*20000000 + 200000, Kept: 331400000}
	if book != want {
		t.Error(book, want)
	}
}

// P1.1: truths that are not as defined.
func TestBadTruths(t *testing.T) {
	for _, x := range []struct {
		name   string
		change func(*api.LensTruth)
		e      api.Errno
	}{
		{"least", func(t *api.LensTruth) { t.Start, t.Soak, t.Leak = 400, 300, 50 }, api.OK},
		{"greatest", func(t *api.LensTruth) { t.Start, t.Soak, t.Leak = 600, 400, 100 }, api.OK},
		{"all wet", func(t *api.LensTruth) { t.Dry, t.Rains = []bool{n, n, n}, []int{100, 150, 120} }, api.OK},
		{"two dry ones apart", func(t *api.LensTruth) { t.Dry, t.Rains = []bool{y, n, y}, []int{20, 100, 0} }, api.OK},
		{"least need", func(t *api.LensTruth) { t.Needs = []int{40, 40, 40} }, api.OK},
		{"start below", func(t *api.LensTruth) { t.Start = 399 }, api.ErrArg},
		{"start above", func(t *api.LensTruth) { t.Start = 601 }, api.ErrArg},
		{"soak below", func(t *api.LensTruth) { t.Soak = 299 }, api.ErrArg},
		{"soak above", func(t *api.LensTruth) { t.Soak = 401 }, api.ErrArg},
		{"leak below", func(t *api.LensTruth) { t.Leak = 49 }, api.ErrArg},
		{"leak above", func(t *api.LensTruth) { t.Leak = 101 }, api.ErrArg},
		{"nil dry", func(t *api.LensTruth) { t.Dry = nil }, api.ErrArg},
		{"dry short", func(t *api.LensTruth) { t.Dry = t.Dry[:2] }, api.ErrArg},
		{"dry long", func(t *api.LensTruth) { t.Dry = append(t.Dry, n) }, api.ErrArg},
		{"too many dry", func(t *api.LensTruth) { t.Dry, t.Rains = []bool{y, y, y}, []int{0, 0, 0} }, api.ErrArg},
		{"rains short", func(t *api.LensTruth) { t.Rains = t.Rains[:2] }, api.ErrArg},
		{"rains long", func(t *api.LensTruth) { t.Rains = append(t.Rains, 0) }, api.ErrArg},
		{"wet rain below", func(t *api.LensTruth) { t.Rains[0] = 99 }, api.ErrArg},
		{"wet rain above", func(t *api.LensTruth) { t.Rains[0] = 151 }, api.ErrArg},
		{"dry rain below", func(t *api.LensTruth) { t.Rains[2] = -1 }, api.ErrArg},
		{"dry rain above", func(t *api.LensTruth) { t.Rains[2] = 21 }, api.ErrArg},
		{"needs short", func(t *api.LensTruth) { t.Needs = t.Needs[:2] }, api.ErrArg},
		{"needs long", func(t *api.LensTruth) { t.Needs = append(t.Needs, 50) }, api.ErrArg},
		{"need below", func(t *api.LensTruth) { t.Needs[0] = 39 }, api.ErrArg},
		{"need above", func(t *api.LensTruth) { t.Needs[2] = 51 }, api.ErrArg},
		{"zero value", func(t *api.LensTruth) { *t = api.LensTruth{} }, api.ErrArg},
	} {
		truth := chapterTruth()
		x.change(&truth)
		l, ledger, e := lens.Play(chapterIslet(), 12, truth)
		if e != x.e || e != api.OK && (len(l) != 0 || ledger != (api.LensLedger{})) {
			t.Errorf("%s: %v %v %v", x.name, l, ledger, e)
		}
	}
}

// P1.1: a truth's months are dry as a drought's, for all that Most and Row allow.
func TestPlayDroughts(t *testing.T) {
	for most := range 5 {
		for row := range 5 {
			i := chapterIslet()
			i.Months = append(i.Months, i.Months[0])
			i.Most, i.Row = most, row
			allowed := plainDroughts(i)
			for bits := range 16 {
				dry := []bool{bits&8 != 0, bits&4 != 0, bits&2 != 0, bits&1 != 0}
				want := api.ErrArg
				if slices.ContainsFunc(allowed, func(d []bool) bool { return slices.Equal(d, dry) }) {
					want = api.OK
				}
				if _, _, e := lens.Play(i, 12, worstTruth(i, dry)); e != want {
					t.Error(most, row, dry, e)
				}
			}
		}
	}
}

// P1.1: many islets as the section says, with a ledger that adds up; nothing is changed or shared.
func TestPlayRandom(t *testing.T) {
	r := rand.New(rand.NewSource(11))
	for range 20000 {
		i := randomIslet(r, 1+r.Intn(api.LensMonths))
		droughts := plainDroughts(i)
		truth := randomTruth(r, i, droughts[r.Intn(len(droughts))])
		tanks := r.Intn(api.LensTanks + 1)
		oldIslet, oldTruth := cloneIslet(i), cloneTruth(truth)
		var want []api.LensSeen
		book := plainPlay(i, tanks, truth, func(_ int, s api.LensSeen) { want = append(want, s) })
		ends, ledger := play(t, i, tanks, truth)
		if !slices.Equal(ends, want) || ledger != book {
			t.Fatal(i, tanks, truth, ends, ledger, want, book)
		}
		if ledger.Start+ledger.Rain != ledger.Used+ledger.Leak+ledger.Sea+ledger.Kept {
			t.Fatal(i, tanks, truth, ledger)
		}
		clear(ends)
		again, ledger2 := play(t, i, tanks, truth)
		if !slices.Equal(again, want) || ledger2 != book || !sameIslet(i, oldIslet) || !sameTruth(truth, oldTruth) {
			t.Fatal("changed", i, truth, again)
		}
	}
}
