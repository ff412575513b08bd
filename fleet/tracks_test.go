package fleet_test

import (
	"math/rand"
	"slices"
	"testing"

	"motu/api"
	"motu/fleet"
)

// P9.3: the chapter's examples, and paths that just do not agree.
func TestAgrees(t *testing.T) {
	for _, x := range []struct {
		reports []api.FleetReport
		path    []int
		want    bool
	}{
		{chapterReports(), []int{0, 1, 2, 1}, true}, {chapterReports(), []int{0, 1, 1, 1}, false}, {chapterReports(), []int{1, 1, 2, 1}, false}, {chapterReports(), []int{0, 1, 2, 2}, false}, {chapterReports(), []int{3, 3, 3, 3}, false},
		{nil, []int{0, 1, 2, 1}, true}, {nil, []int{3, 3, 3, 3}, true},
		{[]api.FleetReport{on(3, 8)}, []int{0, 1, 2, 3}, true}, {[]api.FleetReport{on(3, 7)}, []int{0, 1, 2, 3}, false}, {[]api.FleetReport{on(0, 14)}, []int{0, 1, 2, 3}, false}, {[]api.FleetReport{on(0, 15)}, []int{0, 1, 2, 3}, true},
		// several reports of a day
		{[]api.FleetReport{on(1, 3), on(1, 6)}, []int{1, 1, 1, 1}, true}, {[]api.FleetReport{on(1, 3), on(1, 6)}, []int{0, 0, 0, 0}, false}, {[]api.FleetReport{on(1, 3), on(1, 6)}, []int{2, 2, 2, 2}, false}, {[]api.FleetReport{on(1, 1), on(1, 2)}, []int{0, 0, 0, 0}, false},
	} {
		if is, e := fleet.Agrees(chapterSea(), x.reports, x.path); is != x.want || e != api.OK {
			t.Error(x, is, e)
		}
	}
}

// P9.3: which lists are paths: roads lead one way, and boats can stay.
func TestPaths(t *testing.T) {
	s := api.FleetSea{Cells: 3, Roads: []int{2, 4, 0}, Zones: []int{0}, Berths: []int{0}, Days: 2}
	for from := range 3 {
		for to := range 3 {
			want := api.ErrArg
			if from == to || from+1 == to {
				want = api.OK
			}
			if is, e := fleet.Agrees(s, nil, []int{from, to}); e != want || is != (e == api.OK) {
				t.Error(from, to, is, e)
			}
		}
	}
	s.Days = 1
	for cell := -1; cell < 4; cell++ {
		if is, e := fleet.Agrees(s, []api.FleetReport{on(0, 2)}, []int{cell}); is != (cell == 1) || (e == api.OK) != (cell >= 0 && cell < 3) {
			t.Error(cell, is, e)
		}
	}
}

// P9.3: against the definition, for paths and for lists that are nearly paths.
func TestAgreesRandom(t *testing.T) {
	r := rand.New(rand.NewSource(134))
	seen := map[api.Errno]int{}
	agreed := 0
	for range 20000 {
		s := anySea(r)
		path := randomPath(r, s)
		reports := trueReports(r, s, path, r.Intn(api.FleetReports+1))
		if r.Intn(2) == 0 {
			path[r.Intn(len(path))] = r.Intn(s.Cells)
		}
		want, wantError := true, api.OK
		for day, cell := range path {
			if day > 0 && !canGo(s, path[day-1], cell) {
				wantError = api.ErrArg
			}
			want = want && fits(reports, day, cell)
		}
		is, e := fleet.Agrees(s, reports, path)
		if e != wantError || is != (want && e == api.OK) {
			t.Fatal(s, reports, path, is, e)
		}
		seen[e]++
		if is {
			agreed++
		}
	}
	if seen[api.ErrArg] < 2000 || agreed < 2000 || seen[api.OK]-agreed < 1000 {
		t.Error(seen, agreed)
	}
}

// wantCheat asks for the fewest reports that contradict; for none if all are true together.
func wantCheat(t *testing.T, s api.FleetSea, reports []api.FleetReport, want []int) {
	t.Helper()
	wantError := api.OK
	if len(want) == 0 {
		wantError = api.ErrNone
	}
	if list, e := fleet.Cheat(s, reports); !slices.Equal(list, want) || e != wantError {
		t.Fatal(s, reports, list, e, want)
	}
}

// P9.3: the chapter's examples, and the first one of several sets.
func TestCheat(t *testing.T) {
	for _, x := range []struct {
		reports []api.FleetReport
		want    []int
	}{
		{chapterReports(), nil}, {[]api.FleetReport{on(0, 1), on(1, 6), on(2, 8)}, []int{0, 2}}, {nil, nil}, {[]api.FleetReport{on(0, 1)}, nil},
		{[]api.FleetReport{on(0, 1), on(3, 8)}, nil}, {[]api.FleetReport{on(0, 1), on(2, 8)}, []int{0, 1}}, {[]api.FleetReport{on(2, 8), on(0, 1)}, []int{0, 1}},
		{[]api.FleetReport{on(0, 1), on(3, 8), on(2, 11)}, []int{0, 1, 2}}, {[]api.FleetReport{on(0, 1), on(1, 1), on(3, 8)}, []int{1, 2}},
		// two of three, and any two
		{[]api.FleetReport{on(1, 1), on(1, 2), on(1, 4)}, []int{0, 1}}, {[]api.FleetReport{on(1, 1), on(1, 1), on(1, 2)}, []int{0, 2}}, {[]api.FleetReport{on(1, 1), on(1, 3), on(1, 2)}, []int{0, 2}}, {[]api.FleetReport{on(1, 3), on(1, 1), on(1, 2)}, []int{1, 2}},
		// three of one day come before two that do not, but two are fewer
		{[]api.FleetReport{on(1, 3), on(1, 6), on(1, 5), on(0, 1), on(0, 2)}, []int{3, 4}}, {[]api.FleetReport{on(1, 3), on(1, 6), on(1, 5)}, []int{0, 1, 2}},
		{[]api.FleetReport{on(1, 7), on(1, 11), on(1, 13), on(1, 14)}, []int{0, 1, 2, 3}},
		// as numbers, the bits of 0 and 3 are more than those of 1 and 2
		{[]api.FleetReport{on(0, 3), on(1, 6), on(1, 1), on(1, 12)}, []int{1, 2}}, {[]api.FleetReport{on(0, 1), on(1, 3), on(1, 12), on(0, 8)}, []int{0, 2}}, {[]api.FleetReport{on(0, 1), on(1, 2), on(1, 4), on(0, 8)}, []int{0, 2}},
		{[]api.FleetReport{on(0, 1), on(1, 1), on(1, 2), on(0, 8)}, []int{0, 3}},
		{slices.Repeat([]api.FleetReport{on(2, 5)}, 10), nil},
		{append(slices.Repeat([]api.FleetReport{on(2, 5)}, 9), on(2, 10)), []int{0, 9}},
	} {
		wantCheat(t, chapterSea(), x.reports, x.want)
	}
}

// P9.3: reports that contradict just because of a road that leads one way.
func TestOneWay(t *testing.T) {
	s := api.FleetSea{Cells: 8, Roads: []int{2, 4, 8, 16, 32, 64, 128, 0}, Zones: []int{1}, Berths: []int{0}, Days: 8}
	wantCheat(t, s, []api.FleetReport{on(0, 1), on(7, 128)}, nil)
	wantCheat(t, s, []api.FleetReport{on(7, 128), on(3, 8), on(0, 1)}, nil)
	wantCheat(t, s, []api.FleetReport{on(7, 128), on(3, 247), on(0, 1)}, []int{0, 1, 2})
	wantCheat(t, s, []api.FleetReport{on(0, 2), on(7, 1)}, []int{0, 1})
	wantCheat(t, s, []api.FleetReport{on(7, 2), on(0, 1)}, nil)
	wantCheat(t, s, []api.FleetReport{on(6, 128), on(0, 1)}, []int{0, 1})
}

// P9.3: against all sets of reports. A boat whose reports are true never cheats; without any one of those that contradict, the others are true together.
func TestCheatRandom(t *testing.T) {
	r := rand.New(rand.NewSource(135))
	sizes := map[int]int{}
	for n := range 3000 {
		s := anySea(r)
		reports := trueReports(r, s, randomPath(r, s), r.Intn(api.FleetReports+1))
		wantCheat(t, s, reports, nil)
		switch n % 3 {
		case 0:
			reports = anyReports(r, s)
		case 1:
			reports = randomReports(r, s, r.Intn(7))
		default:
			reports = nearReports(r, s)
		}
		want := plainCheat(s, reports)
		wantCheat(t, s, reports, want)
		sizes[len(want)]++
		chosen := pick(reports, want)
		if len(want) > 0 && isTrue(t, s, chosen) {
			t.Fatal(s, reports, want)
		}
		for k := range chosen {
			if !isTrue(t, s, without(chosen, k)) {
				t.Fatal(s, reports, want, k)
			}
		}
	}
	if sizes[0] < 500 || sizes[2] < 300 || sizes[3] < 50 || sizes[4] < 10 {
		t.Error(sizes)
	}
}

// nearReports returns reports that leave out few cells each, so that it takes several to contradict.
func nearReports(r *rand.Rand, s api.FleetSea) []api.FleetReport {
	all := 1<<s.Cells - 1
	reports := randomReports(r, s, 5+r.Intn(api.FleetReports-4))
	for k := range reports {
		reports[k].Cells |= r.Intn(all+1) | r.Intn(all+1)
		reports[k].Day %= 2
		reports[k].Day = min(reports[k].Day, s.Days-1)
	}
	return reports
}

// P9.3: against all paths, for small seas.
func TestCheatByPaths(t *testing.T) {
	r := rand.New(rand.NewSource(136))
	seen := map[bool]int{}
	for range 2000 {
		s := randomSea(r, 1+r.Intn(4), 1+r.Intn(5))
		reports := randomReports(r, s, r.Intn(6))
		paths := 0
		plainPaths(s, reports, func([]int) { paths++ })
		if isTrue(t, s, reports) != (paths > 0) {
			t.Fatal(s, reports, paths)
		}
		seen[paths > 0]++
	}
	if seen[true] < 200 || seen[false] < 200 {
		t.Error(seen)
	}
}
