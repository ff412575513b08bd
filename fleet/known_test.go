package fleet_test

import (
	"math/rand"
	"slices"
	"testing"

	"motu/api"
	"motu/fleet"
)

const (
	not    = api.FleetNot
	may    = api.FleetMay
	surely = api.FleetSurely
)

// P9.4: the chapter's examples, and zones that are empty, or the whole sea.
func TestKnown(t *testing.T) {
	s := chapterSea()
	s.Zones, s.Berths = []int{3, 12, 0}, []int{1, 2, 0}
	whole := chapterSea()
	whole.Zones = []int{15, 2}
	far := []api.FleetReport{on(0, 1), on(3, 8)}
	for _, x := range []struct {
		sea     api.FleetSea
		reports []api.FleetReport
		zone    int
		want    []api.FleetWord
	}{
		{s, chapterReports(), 0, []api.FleetWord{surely, surely, not, surely}}, {s, chapterReports(), 1, []api.FleetWord{not, not, surely, not}}, {s, chapterReports(), 2, []api.FleetWord{not, not, not, not}},
		{s, nil, 0, []api.FleetWord{may, may, may, may}}, {s, nil, 2, []api.FleetWord{not, not, not, not}}, {whole, nil, 0, []api.FleetWord{surely, surely, surely, surely}}, {whole, nil, 1, []api.FleetWord{may, may, may, may}},
		// all is known between the first day and the last one, though just these are reported
		{s, far, 0, []api.FleetWord{surely, surely, not, not}}, {s, far, 1, []api.FleetWord{not, not, surely, surely}}, {whole, far, 1, []api.FleetWord{not, surely, not, not}},
		{s, []api.FleetReport{on(0, 1)}, 0, []api.FleetWord{surely, surely, may, may}}, {s, []api.FleetReport{on(0, 1)}, 1, []api.FleetWord{not, not, may, may}},
		{s, []api.FleetReport{on(3, 8)}, 0, []api.FleetWord{may, may, not, not}}, {s, []api.FleetReport{on(3, 8)}, 1, []api.FleetWord{may, may, surely, surely}},
		{s, []api.FleetReport{on(1, 3), on(1, 6)}, 0, []api.FleetWord{may, surely, may, may}}, {whole, []api.FleetReport{on(1, 3), on(1, 6)}, 1, []api.FleetWord{may, surely, may, may}},
		{s, []api.FleetReport{on(1, 6)}, 0, []api.FleetWord{may, may, may, may}}, {s, []api.FleetReport{on(1, 9)}, 0, []api.FleetWord{may, may, may, may}},
	} {
		if words := known(t, x.sea, x.reports, x.zone); !slices.Equal(words, x.want) {
			t.Error(x, words)
		}
	}
	one := api.FleetSea{Cells: 1, Roads: []int{0}, Zones: []int{1}, Berths: []int{0}, Days: 1}
	if words := known(t, one, nil, 0); !slices.Equal(words, []api.FleetWord{surely}) {
		t.Error(words)
	}
}

// P9.4: nothing is known if reports contradict.
func TestContradict(t *testing.T) {
	for _, reports := range [][]api.FleetReport{{on(1, 1), on(1, 2)}, {on(0, 1), on(1, 4)}, {on(3, 1), on(2, 12)}, append(chapterReports(), on(1, 1))} {
		for zone := range 2 {
			if words, e := fleet.Known(chapterSea(), reports, zone); e != api.ErrRule || len(words) != 0 {
				t.Error(reports, zone, words, e)
			}
		}
		if places, e := fleet.Guilty(chapterSea(), chapterBids(), 0, 1, reports); e != api.ErrRule || len(places) != 0 {
			t.Error(reports, places, e)
		}
	}
}

// P9.4: against each cell alone, and for small seas against all paths.
func TestKnownRandom(t *testing.T) {
	r := rand.New(rand.NewSource(137))
	seen := map[api.FleetWord]int{}
	for range 5000 {
		s := anySea(r)
		reports := trueReports(r, s, randomPath(r, s), r.Intn(api.FleetReports+1))
		for zone := range s.Zones {
			words := known(t, s, reports, zone)
			if !slices.Equal(words, plainKnown(s, reports, zone)) {
				t.Fatal(s, reports, zone, words)
			}
			for _, w := range words {
				seen[w]++
			}
		}
	}
	if seen[not] < 5000 || seen[may] < 5000 || seen[surely] < 5000 {
		t.Error(seen)
	}
}

// P9.4: what is known is so on all paths that agree, and what can be is so on some.
func TestKnownByPaths(t *testing.T) {
	r := rand.New(rand.NewSource(138))
	for range 1000 {
		s := randomSea(r, 1+r.Intn(4), 1+r.Intn(5))
		reports := trueReports(r, s, randomPath(r, s), r.Intn(5))
		in, out := make([]int, s.Days), make([]int, s.Days)
		zone := r.Intn(len(s.Zones))
		plainPaths(s, reports, func(path []int) {
			for day, cell := range path {
				if inSet(s.Zones[zone], cell) {
					in[day]++
				} else {
					out[day]++
				}
			}
		})
		for day, w := range known(t, s, reports, zone) {
			if (w == surely) != (out[day] == 0) || (w == not) != (in[day] == 0) || w != may && in[day] > 0 && out[day] > 0 {
				t.Fatal(s, reports, zone, day, w, in, out)
			}
		}
	}
}

// wantGuilty asks for the places of which a boat is guilty.
func wantGuilty(t *testing.T, s api.FleetSea, bids []api.FleetBid, sale, number int, reports []api.FleetReport, want []api.FleetPlace) {
	t.Helper()
	if places, e := fleet.Guilty(s, bids, sale, number, reports); !slices.Equal(places, want) || e != api.OK {
		t.Fatal(s, bids, sale, number, reports, places, e, want)
	}
}

// P9.4: the chapter's examples, and licences that are just none: of other fleets, zones and days, and of bids that are not sold.
func TestGuilty(t *testing.T) {
	s, bids, reports := chapterSea(), chapterBids(), chapterReports()
	for _, x := range []struct {
		sale, fleet int
		want        []api.FleetPlace
	}{
		{13, 0, []api.FleetPlace{at(1, 2)}}, {13, 1, []api.FleetPlace{at(0, 0), at(0, 1), at(0, 3), at(1, 2)}}, {13, 2, []api.FleetPlace{at(0, 0), at(0, 1), at(0, 3)}}, {13, 9, []api.FleetPlace{at(0, 0), at(0, 1), at(0, 3), at(1, 2)}},
		{0, 0, []api.FleetPlace{at(0, 0), at(0, 1), at(0, 3), at(1, 2)}}, {1, 0, []api.FleetPlace{at(0, 3), at(1, 2)}}, {4, 0, []api.FleetPlace{at(0, 0), at(0, 1), at(1, 2)}}, {8, 0, []api.FleetPlace{at(0, 0), at(0, 1), at(0, 3), at(1, 2)}},
		{2, 1, []api.FleetPlace{at(0, 0), at(1, 2)}}, {8, 2, []api.FleetPlace{at(0, 0), at(0, 1), at(0, 3)}},
		// an oversold sale gives licences, too
		{15, 1, []api.FleetPlace{at(0, 0), at(1, 2)}}, {7, 0, []api.FleetPlace{at(1, 2)}},
	} {
		wantGuilty(t, s, bids, x.sale, x.fleet, reports, x.want)
	}
	wantGuilty(t, s, bids, 0, 0, nil, nil)
	wantGuilty(t, s, nil, 0, 0, []api.FleetReport{on(2, 4)}, []api.FleetPlace{at(1, 2)})
	wantGuilty(t, s, nil, 0, 0, []api.FleetReport{on(2, 6)}, nil)
	// a cell of both zones
	s.Zones = []int{3, 14}
	wantGuilty(t, s, nil, 0, 0, []api.FleetReport{on(2, 2)}, []api.FleetPlace{at(0, 2), at(1, 2)})
	wantGuilty(t, s, []api.FleetBid{bid(0, 1, 2, 1, 0)}, 1, 0, []api.FleetReport{on(2, 2)}, []api.FleetPlace{at(0, 2)})
	wantGuilty(t, s, []api.FleetBid{bid(0, 1, 1, 1, 0)}, 1, 0, []api.FleetReport{on(2, 2)}, []api.FleetPlace{at(0, 2), at(1, 2)})
	wantGuilty(t, s, []api.FleetBid{bid(0, 1, 3, 1, 0)}, 1, 0, []api.FleetReport{on(2, 2)}, []api.FleetPlace{at(0, 2), at(1, 2)})
	wantGuilty(t, s, []api.FleetBid{bid(0, 1, 1, 2, 0), bid(0, 0, 2, 2, 0)}, 3, 0, []api.FleetReport{on(2, 2)}, nil)
}

// P9.4: against the definition. A boat is never guilty where it was not, nor where it had a licence.
func TestGuiltyRandom(t *testing.T) {
	r := rand.New(rand.NewSource(139))
	guilty, licensed := 0, 0
	for range 5000 {
		s := anySea(r)
		bids := anyBids(r, s)
		path := randomPath(r, s)
		reports := trueReports(r, s, path, r.Intn(api.FleetReports+1))
		sale, number := r.Intn(1<<len(bids)), r.Intn(3)
		places := plainGuilty(s, bids, sale, number, reports)
		wantGuilty(t, s, bids, sale, number, reports, places)
		for _, p := range places {
			if !inSet(s.Zones[p.Zone], path[p.Day]) {
				t.Fatal(s, reports, path, p)
			}
		}
		guilty += len(places)
		all := plainGuilty(s, nil, 0, number, reports)
		wantGuilty(t, s, nil, 0, number, reports, all)
		for _, p := range all {
			own := []api.FleetBid{bid(number, p.Zone, p.Day, 1, 0)}
			wantGuilty(t, s, own, 1, number, reports, slices.DeleteFunc(slices.Clone(all), func(q api.FleetPlace) bool { return p == q }))
		}
		licensed += len(all) - len(places)
	}
	if guilty < 5000 || licensed < 2000 {
		t.Error(guilty, licensed)
	}
}
