package fleet_test

import (
	"math/rand"
	"slices"
	"testing"

	"motu/api"
)

// wantMore asks for a best sale that brings no less than another one, and reports whether it brings more.
func wantMore(t *testing.T, s api.FleetSea, bids []api.FleetBid, better api.FleetSea, more []api.FleetBid) bool {
	t.Helper()
	_, old := sell(t, s, bids)
	_, revenue := sell(t, better, more)
	if revenue < old {
		t.Fatal(s, bids, better, more, old, revenue)
	}
	return revenue > old
}

// P9.6: a berth more never makes the best sale bring less.
func TestOneBerthMore(t *testing.T) {
	r := rand.New(rand.NewSource(140))
	more := 0
	for range 3000 {
		s := anySea(r)
		bids := anyBids(r, s)
		better := cloneSea(s)
		zone := r.Intn(len(s.Zones))
		if s.Berths[zone] == api.FleetBerths {
			continue
		}
		better.Berths[zone]++
		if wantMore(t, s, bids, better, bids) {
			more++
		}
	}
	if more < 500 {
		t.Error(more)
	}
}

// P9.6: a bid more never makes the best sale bring less, wherever it stands among the others.
func TestOneBidMore(t *testing.T) {
	r := rand.New(rand.NewSource(141))
	more := 0
	for range 3000 {
		s := anySea(r)
		bids := randomBids(r, s, 1+r.Intn(api.FleetBids), 20)
		k := r.Intn(len(bids))
		if wantMore(t, s, slices.Delete(slices.Clone(bids), k, k+1), s, bids) {
			more++
		}
	}
	if more < 500 {
		t.Error(more)
	}
}

// P9.6: a report more never makes what is sure unsure, if all of them can be true.
func TestOneReportMore(t *testing.T) {
	r := rand.New(rand.NewSource(142))
	surer := 0
	for range 5000 {
		s := anySea(r)
		reports := trueReports(r, s, randomPath(r, s), 1+r.Intn(api.FleetReports))
		k := r.Intn(len(reports))
		for zone := range s.Zones {
			old, words := known(t, s, without(reports, k), zone), known(t, s, reports, zone)
			for day, w := range old {
				if w != may && words[day] != w {
					t.Fatal(s, reports, k, zone, old, words)
				}
				if w != words[day] {
					surer++
				}
			}
		}
	}
	if surer < 1000 {
		t.Error(surer)
	}
}

// P9.6: reports that contradict contradict with one more, too, and no more of them are needed.
func TestOneReportMoreContradicts(t *testing.T) {
	r := rand.New(rand.NewSource(143))
	seen := 0
	for range 3000 {
		s := anySea(r)
		reports := randomReports(r, s, 1+r.Intn(api.FleetReports))
		k := r.Intn(len(reports))
		if !isTrue(t, s, without(reports, k)) {
			seen++
			if isTrue(t, s, reports) {
				t.Fatal(s, reports, k)
			}
		}
	}
	if seen < 500 {
		t.Error(seen)
	}
}
