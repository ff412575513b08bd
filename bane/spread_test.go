package bane_test

import (
	"math/rand"
	"slices"
	"testing"

	"motu/api"
	"motu/bane"
)

func catches(t *testing.T, s api.BaneSea, guards []int) []int {
	t.Helper()
	days, e := bane.Catches(s, guards)
	if e != api.OK || len(days) != s.Islets {
		t.Fatal(s, guards, days, e)
	}
	return days
}

func wantPath(t *testing.T, s api.BaneSea, guards []int, islet int, want []int, found bool) {
	t.Helper()
	e := api.OK
	if !found {
		e = api.ErrNone
	}
	if path, got := bane.Path(s, guards, islet); got != e || !slices.Equal(path, want) {
		t.Fatal(s, guards, islet, path, got, want)
	}
}

// seaOf returns a sea of trips, each of a day, from an islet to another one.
func seaOf(islets, wait int, infested []int, trips ...[3]int) api.BaneSea {
	s := api.BaneSea{Islets: islets, Wait: wait, Infested: infested}
	for _, x := range trips {
		s.Trips = append(s.Trips, api.BaneTrip{Day: x[0], From: x[1], To: x[2], Cost: 1})
	}
	return s
}

// P4.4: the chapter's examples, with other guards and waits.
func TestCatchesExample(t *testing.T) {
	for _, x := range []struct {
		wait   int
		guards []int
		want   []int
	}{
		{2, nil, []int{0, 1, 3, 5}},
		{2, []int{}, []int{0, 1, 3, 5}},
		{2, []int{2}, []int{0, 1, 4, -1}},
		{2, []int{4}, []int{0, 1, 3, 5}},
		{2, []int{3}, []int{0, 1, 3, -1}},
		{2, []int{0}, []int{0, -1, 4, -1}},
		{2, []int{0, 4}, []int{0, -1, -1, -1}},
		{2, []int{0, 1, 2, 3, 4}, []int{0, -1, -1, -1}},
		{1, nil, []int{0, 1, 3, 2}},
		{1, []int{1}, []int{0, 1, 3, 5}},
		{1, []int{1, 2}, []int{0, 1, 4, 5}},
		{0, nil, []int{0, 1, 3, 2}},
		{3, nil, []int{0, 1, 4, -1}},
		{api.BaneWait, nil, []int{0, 1, 4, -1}},
	} {
		s := chapterSea()
		s.Wait = x.wait
		if days := catches(t, s, x.guards); !slices.Equal(days, x.want) {
			t.Error(x, days)
		}
	}
}

// P4.4: the chapter's example of what is true, and more.
func TestSpreadExample(t *testing.T) {
	const n, y = false, true
	for _, x := range []struct {
		guards  []int
		carries []bool
		want    []int
	}{
		{nil, []bool{y, y, n, y, y}, []int{0, 1, 4, -1}},
		{nil, []bool{y, y, y, y, y}, []int{0, 1, 3, 5}},
		{nil, []bool{n, n, n, n, n}, []int{0, -1, -1, -1}},
		{nil, []bool{y, n, y, y, n}, []int{0, 1, 3, 5}},
		{nil, []bool{n, y, y, y, n}, []int{0, -1, -1, -1}},
		{[]int{2}, []bool{y, y, y, y, y}, []int{0, 1, 4, -1}},
		{[]int{4}, []bool{y, y, n, y, y}, []int{0, 1, -1, -1}},
		{[]int{0}, []bool{y, y, y, y, n}, []int{0, -1, -1, -1}},
		{[]int{0, 1, 2, 3, 4}, []bool{y, y, y, y, y}, []int{0, -1, -1, -1}},
	} {
		if days, e := bane.Spread(chapterSea(), x.guards, x.carries); e != api.OK || !slices.Equal(days, x.want) {
			t.Error(x, days, e)
		}
	}
	if days, e := bane.Spread(api.BaneSea{Islets: 2}, nil, nil); e != api.OK || !slices.Equal(days, []int{-1, -1}) {
		t.Error(days, e)
	}
}

// P4.4: the chapter's examples, and what they say of other islets.
func TestPathExample(t *testing.T) {
	s := chapterSea()
	wantPath(t, s, nil, 3, []int{0, 2, 3}, true)
	wantPath(t, s, []int{2}, 2, []int{4}, true)
	wantPath(t, s, nil, 0, nil, true)
	wantPath(t, s, nil, 1, []int{0}, true)
	wantPath(t, s, nil, 2, []int{0, 2}, true)
	wantPath(t, s, []int{2}, 3, nil, false)
	wantPath(t, s, []int{0, 1, 2, 3, 4}, 0, nil, true)
	s.Wait = 1
	wantPath(t, s, nil, 3, []int{0, 1}, true)
	wantPath(t, s, []int{1}, 3, []int{4, 3}, true)
	wantPath(t, s, []int{1, 4}, 3, []int{0, 2, 3}, true)
	wantPath(t, s, []int{1, 2}, 3, []int{4, 3}, true)
}

// P4.4: seas with edge cases, each with all days, and the first path to its last islet.
func TestCatchesCases(t *testing.T) {
	most := api.BaneDays
	for _, x := range []struct {
		name string
		sea  api.BaneSea
		days []int
		path []int
	}{
		{"no trips", seaOf(2, 0, []int{0}), []int{0, -1}, nil},
		{"none infested", seaOf(2, 0, nil, [3]int{0, 0, 1}), []int{-1, -1}, nil},
		{"away from the infested one", seaOf(2, 0, []int{0}, [3]int{0, 1, 0}), []int{0, -1}, nil},
		{"the day 0", seaOf(2, 40, []int{0}, [3]int{0, 0, 1}), []int{0, 0}, []int{0}},
		{"the last day", seaOf(2, 40, []int{0}, [3]int{most, 0, 1}), []int{0, most}, []int{0}},
		{"the last days", seaOf(3, 40, []int{0}, [3]int{most, 1, 2}, [3]int{most - 40, 0, 1}), []int{0, most - 40, most}, []int{1, 0}},
		{"a day too early", seaOf(3, 40, []int{0}, [3]int{most, 1, 2}, [3]int{most - 39, 0, 1}), []int{0, most - 39, -1}, nil},
		{"on one day, in either order", seaOf(3, 0, []int{0}, [3]int{7, 1, 2}, [3]int{7, 0, 1}), []int{0, 7, 7}, []int{1, 0}},
		{"on one day, but with a wait", seaOf(3, 1, []int{0}, [3]int{7, 1, 2}, [3]int{7, 0, 1}), []int{0, 7, -1}, nil},
		{"before they come", seaOf(3, 0, []int{0}, [3]int{6, 1, 2}, [3]int{7, 0, 1}), []int{0, 7, -1}, nil},
		{"there and back on one day", seaOf(3, 0, []int{0}, [3]int{7, 0, 1}, [3]int{7, 1, 0}, [3]int{7, 1, 2}), []int{0, 7, 7}, []int{0, 2}},
		{"around without an end", seaOf(4, 0, []int{0}, [3]int{7, 0, 1}, [3]int{7, 1, 2}, [3]int{7, 2, 1}, [3]int{6, 2, 3}), []int{0, 7, 7, -1}, nil},
		{"an infested one is left at once, again", seaOf(3, 9, []int{0, 1}, [3]int{1, 0, 1}, [3]int{2, 1, 2}), []int{0, 0, 2}, []int{1}},
		{"back to the infested one", seaOf(3, 1, []int{0}, [3]int{1, 0, 1}, [3]int{2, 1, 0}, [3]int{3, 0, 2}), []int{0, 1, 3}, []int{2}},
		{"earlier, though with more trips", seaOf(3, 1, []int{0}, [3]int{9, 0, 2}, [3]int{1, 0, 1}, [3]int{8, 1, 2}), []int{0, 1, 8}, []int{1, 2}},
		{"as early, with fewer trips", seaOf(3, 1, []int{0}, [3]int{1, 0, 1}, [3]int{8, 1, 2}, [3]int{8, 0, 2}), []int{0, 1, 8}, []int{2}},
		{"as early, with as many trips", seaOf(3, 0, []int{0}, [3]int{8, 0, 2}, [3]int{8, 0, 2}), []int{0, -1, 8}, []int{0}},
		{"later on the way, but with fewer trips", seaOf(4, 1, []int{0}, [3]int{1, 0, 1}, [3]int{2, 1, 2}, [3]int{5, 0, 2}, [3]int{9, 2, 3}), []int{0, 1, 2, 9}, []int{2, 3}},
		{"the first one of another islet", seaOf(4, 0, []int{0, 1}, [3]int{5, 1, 2}, [3]int{5, 0, 2}, [3]int{9, 2, 3}), []int{0, 0, 5, 9}, []int{0, 2}},
		{"the first trip, not the first islet", seaOf(5, 0, []int{0, 1}, [3]int{3, 1, 3}, [3]int{3, 0, 2}, [3]int{9, 2, 4}, [3]int{9, 3, 4}), []int{0, 0, 3, 3, 9}, []int{0, 3}},
		{"the first of all trips, not of the last ones", seaOf(5, 0, []int{0}, [3]int{9, 2, 4}, [3]int{9, 3, 4}, [3]int{4, 0, 3}, [3]int{4, 0, 2}), []int{0, -1, 4, 4, 9}, []int{2, 1}},
	} {
		if days := catches(t, x.sea, nil); !slices.Equal(days, x.days) {
			t.Errorf("%s: %v", x.name, days)
		}
		last := x.sea.Islets - 1
		path, e := bane.Path(x.sea, nil, last)
		if (e == api.OK) != (x.days[last] >= 0) || e != api.OK && e != api.ErrNone || !slices.Equal(path, x.path) {
			t.Errorf("%s: %v %v", x.name, path, e)
		}
	}
}

// P4.4: all that the section says, against all paths.
func TestCatchesRandom(t *testing.T) {
	r := rand.New(rand.NewSource(58))
	seen := map[int]int{}
	for range 6000 {
		s := randomSea(r)
		guards := randomSet(r, len(s.Trips), 5)
		days, paths := plainFirst(s, guards)
		if got := catches(t, s, guards); !slices.Equal(got, days) {
			t.Fatal(s, guards, got, days)
		}
		for islet, day := range days {
			wantPath(t, s, guards, islet, paths[islet], day >= 0)
			seen[len(paths[islet])]++
		}
	}
	for _, trips := range []int{0, 1, 2, 3, 4} {
		if seen[trips] < 20 {
			t.Error(seen)
		}
	}
}

// P4.4: where an islet can catch beetles, the path that is told leads there, on the day that is told.
func TestPathLeads(t *testing.T) {
	r := rand.New(rand.NewSource(59))
	for range 3000 {
		s := randomSea(r)
		guards := randomSet(r, len(s.Trips), 5)
		for islet, day := range catches(t, s, guards) {
			path, e := bane.Path(s, guards, islet)
			if (e == api.OK) != (day >= 0) {
				t.Fatal(s, guards, islet, day, path, e)
			}
			for k, trip := range path {
				if slices.Contains(guards, trip) || !plainGoes(s, path[:k], s.Trips[trip]) {
					t.Fatal(s, guards, islet, path)
				}
			}
			if len(path) > 0 && (s.Trips[path[len(path)-1]].To != islet || s.Trips[path[len(path)-1]].Day != day) {
				t.Fatal(s, guards, islet, day, path)
			}
		}
	}
}

// P4.4: in truth, against beetles that go on until they come nowhere sooner; never before an islet can catch them.
func TestSpreadRandom(t *testing.T) {
	r := rand.New(rand.NewSource(60))
	later := 0
	for range 6000 {
		s := randomSea(r)
		guards, carries := randomSet(r, len(s.Trips), 5), randomCarries(r, s)
		days, e := bane.Spread(s, guards, carries)
		if want := plainSpread(s, guards, carries); e != api.OK || !slices.Equal(days, want) {
			t.Fatal(s, guards, carries, days, e, want)
		}
		could := catches(t, s, guards)
		for k, day := range days {
			if day >= 0 && (could[k] < 0 || could[k] > day) {
				t.Fatal(s, guards, carries, days, could)
			}
		}
		if !slices.Equal(days, could) {
			later++
		}
		all := slices.Repeat([]bool{true}, len(s.Trips))
		if days, e := bane.Spread(s, guards, all); e != api.OK || !slices.Equal(days, could) {
			t.Fatal(s, guards, days, e, could)
		}
	}
	if later < 1000 {
		t.Error(later)
	}
}
