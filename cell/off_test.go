package cell_test

import (
	"cmp"
	"math/rand"
	"slices"
	"testing"

	"motu/api"
	"motu/cell"
)

// held returns a system of one day with 150 in a battery, and some loads.
func held(loads ...api.CellLoad) api.CellSystem {
	return api.CellSystem{Size: 150, Start: 1000, Loads: loads, Days: 1, Window: 1}
}

func must(need int) api.CellLoad { return api.CellLoad{Need: need, Must: true} }

// P7.5: the chapter's examples, and loads alone.
func TestOffExamples(t *testing.T) {
	for _, x := range []struct {
		name              string
		c                 api.CellSystem
		panels, batteries int
		want              int
		e                 api.Errno
	}{
		{"the chapter's first", chapterSystem(), 1, 2, 2, api.OK},
		{"the chapter's second", chapterSystem(), 2, 2, 0, api.OK},
		{"the chapter's third", chapterSystem(), 2, 1, 0, api.ErrNone},
		{"nothing is there", chapterSystem(), 0, 0, 0, api.ErrNone},
		{"enough of all", chapterSystem(), 12, 8, 0, api.OK},
		{"nothing must be carried", held(load(200, 0), load(10, 0)), 0, 1, 0, api.OK},
		{"one of one", held(load(60, 0), must(100)), 0, 1, 1, api.OK},
		{"either of two", held(load(60, 0), load(60, 0), must(80)), 0, 1, 1, api.OK},
		{"only the second of two", held(load(5, 0), load(60, 0), must(91)), 0, 1, 2, api.OK},
		{"both of two", held(load(60, 0), load(60, 0), must(100)), 0, 1, 3, api.OK},
		{"one instead of two", held(load(20, 0), load(20, 0), load(40, 0), must(110)), 0, 1, 4, api.OK},
		{"two of four", held(load(30, 0), load(20, 0), load(30, 0), load(30, 0), must(100)), 0, 1, 5, api.OK},
		{"four of four", held(load(1, 0), load(1, 0), load(1, 0), load(1, 0), must(150)), 0, 1, 15, api.OK},
		{"what comes later does not matter", held(must(100), load(60, 0)), 0, 1, 0, api.OK},
		{"between two that must be carried", held(must(50), load(60, 0), must(100)), 0, 1, 2, api.OK},
		{"loads that must be carried are too much together", held(must(80), load(60, 0), must(80)), 0, 1, 0, api.ErrNone},
		{"a load that is not carried need not be off", held(load(100, 51), load(60, 0), must(100)), 0, 1, 2, api.OK},
		{"when one is off, another one is carried", held(load(60, 0), load(70, 30), must(100)), 0, 1, 3, api.OK},
	} {
		if off, e := cell.Off(x.c, x.panels, x.batteries); e != x.e || off != x.want {
			t.Errorf("%s: %v %v", x.name, off, e)
		}
	}
}

func count(bits int) int {
	n := 0
	for k := range 10 {
		if isOne(bits, k) {
			n++
		}
	}
	return n
}

// plainSets returns the sets of loads that are not Must and with which no weather lets a load down.
func plainSets(c api.CellSystem, panels, batteries int) []int {
	var all []int
	for off := range 1 << len(c.Loads) {
		may := true
		for k, l := range c.Loads {
			may = may && !(l.Must && isOne(off, k))
		}
		if _, found := plainFault(c, panels, batteries, off); may && !found {
			all = append(all, off)
		}
	}
	return all
}

// P7.5: the fewest loads of all sets, and the least number of these; nothing is changed.
func TestOffOfAll(t *testing.T) {
	r := rand.New(rand.NewSource(102))
	counts := map[int]int{}
	for range 8000 {
		c := randomSystem(r, 1+r.Intn(4), 1+r.Intn(api.CellLoads))
		c.Sunny, c.Size = c.Sunny+4, c.Size+4
		for k := range c.Loads {
			c.Loads[k].Must = k == len(c.Loads)-1
			if k == len(c.Loads)-1 || r.Intn(2) == 0 {
				c.Loads[k].Keep = 0
			}
		}
		panels, batteries := r.Intn(4), 1+r.Intn(3)
		old := cloneSystem(c)
		off, e := cell.Off(c, panels, batteries)
		sets := plainSets(c, panels, batteries)
		if len(sets) == 0 {
			counts[-1]++
			if e != api.ErrNone || off != 0 {
				t.Fatal(c, panels, batteries, off, e)
			}
			continue
		}
		want := slices.MinFunc(sets, func(a, b int) int { return cmp.Or(cmp.Compare(count(a), count(b)), cmp.Compare(a, b)) })
		if e != api.OK || off != want || !sameSystem(c, old) {
			t.Fatal(c, panels, batteries, off, e, want)
		}
		counts[count(off)]++
	}
	if counts[-1] < 500 || counts[0] < 500 || counts[1] < 500 || counts[2] < 100 || counts[3] < 20 {
		t.Error(counts)
	}
}

// P7.5: a set with more loads need not help because one with fewer does.
func TestOffMoreCanBeWorse(t *testing.T) {
	// what the first load leaves when it is off, the second one takes
	c := held(load(20, 0), load(80, 60), must(100))
	for off, want := range []bool{true, false, true, true} {
		if suffices(t, c, 0, 1, off) != want {
			t.Error(off)
		}
	}
	if off, e := cell.Off(c, 0, 1); off != 0 || e != api.OK {
		t.Error(off, e)
	}
}
