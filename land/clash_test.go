package land_test

import (
	"math/rand"
	"slices"
	"testing"

	"motu/api"
	"motu/land"
)

// P2.3: the chapter's examples, and the first ones of several.
func TestClash(t *testing.T) {
	chain := []api.LandMemory{memory(0, 1, 1, 2), memory(1, 2, 1, 2), memory(2, 3, 1, 2), memory(3, 4, 1, 2), memory(4, 5, 1, 2), memory(5, 6, 1, 2)}
	yes, no := memory(0, 1, 1, 3), memory(0, 1, 4, 6)
	for name, x := range map[string]struct {
		b           api.LandBook
		clash, drop []int
	}{
		"chapter's c":                {otherBook(), []int{1, 2, 4}, []int{1}},
		"chapter's b":                {chapterBook(), nil, nil},
		"no memories":                {eventsBook(7), nil, nil},
		"one event":                  {eventsBook(1), nil, nil},
		"one memory":                 {eventsBook(2, memory(0, 1, last, last)), nil, nil},
		"all of one mind":            {eventsBook(2, slices.Repeat([]api.LandMemory{yes}, 10)...), nil, nil},
		"two":                        {eventsBook(2, yes, no), []int{0, 1}, []int{0}},
		"the last two":               {eventsBook(3, append(slices.Repeat([]api.LandMemory{memory(0, 2, 0, 9)}, 8), yes, no)...), []int{8, 9}, []int{8}},
		"one against two":            {eventsBook(2, yes, no, no), []int{0, 1}, []int{0}},
		"two against one":            {eventsBook(2, yes, yes, no), []int{0, 2}, []int{2}},
		"one against nine":           {eventsBook(2, append(slices.Repeat([]api.LandMemory{yes}, 9), no)...), []int{0, 9}, []int{9}},
		"five against five":          {eventsBook(2, append(slices.Repeat([]api.LandMemory{yes}, 5), slices.Repeat([]api.LandMemory{no}, 5)...)...), []int{0, 5}, []int{0, 1, 2, 3, 4}},
		"by turns":                   {eventsBook(2, yes, no, yes, no), []int{0, 1}, []int{0, 2}},
		"a pair rather than three":   {eventsBook(4, memory(0, 1, 1, 2), memory(1, 2, 1, 2), memory(2, 0, 1, 2), memory(0, 3, 1, 1), memory(0, 3, 2, 2)), []int{3, 4}, []int{0, 3}},
		"all seven":                  {eventsBook(7, append(chain, memory(6, 0, 0, last))...), []int{0, 1, 2, 3, 4, 5, 6}, []int{0}},
		"all seven, and a last one":  {eventsBook(7, append(chain, memory(6, 0, -5, last))...), []int{0, 1, 2, 3, 4, 5, 6}, []int{0}},
		"just enough years":          {eventsBook(7, append(chain, memory(6, 0, -6, last))...), nil, nil},
		"the years are too few":      {eventsBook(3, memory(0, 1, 500, 600), memory(1, 2, 501, 600)), []int{0, 1}, []int{0}},
		"the years suffice":          {eventsBook(3, memory(0, 1, 500, 600), memory(1, 2, 500, 600)), nil, nil},
		"all years, in six steps":    {eventsBook(7, memory(0, 1, 167, 170), memory(1, 2, 167, 170), memory(2, 3, 167, 170), memory(3, 4, 167, 170), memory(4, 5, 167, 170), memory(5, 6, 167, 170)), []int{0, 1, 2, 3, 4, 5}, []int{0}},
		"told backwards":             {eventsBook(3, memory(1, 0, -6, -4), memory(2, 1, -6, -4), memory(0, 2, 1, 7)), []int{0, 1, 2}, []int{0}},
		"a clash with either of two": {eventsBook(3, memory(0, 1, 1, 1), memory(1, 2, 1, 1), memory(0, 1, 2, 2), memory(1, 2, 2, 2)), []int{0, 2}, []int{0, 1}},
		"one is in all clashes":      {eventsBook(4, memory(0, 1, 1, 1), memory(0, 1, 2, 2), memory(1, 0, -3, -2), memory(2, 3, 0, 0)), []int{0, 1}, []int{0}},
	} {
		want := api.OK
		if x.clash == nil {
			want = api.ErrNone
		}
		before := cloneBook(x.b)
		if l, e := land.Clash(x.b); e != want || !slices.Equal(l, x.clash) {
			t.Errorf("%s: Clash: %v %v", name, l, e)
		}
		if l, e := land.Drop(x.b); e != api.OK || !slices.Equal(l, x.drop) {
			t.Errorf("%s: Drop: %v %v", name, l, e)
		}
		if !sameBook(x.b, before) {
			t.Errorf("%s: the book was changed", name)
		}
	}
}

// P2.3: clashes and what to drop of books at random, against all sets of memories, each followed from its start.
func TestClashRandom(t *testing.T) {
	r := rand.New(rand.NewSource(26))
	seen := map[int]int{}
	for range 500 {
		b := randomBook(r, 1+r.Intn(5))
		want, found := plainClash(b)
		l, e := land.Clash(b)
		if found != (e == api.OK) || !found && e != api.ErrNone || !slices.Equal(l, want) {
			t.Fatal(b, l, e, want)
		}
		d, e := land.Drop(b)
		if e != api.OK || !slices.Equal(d, plainDrop(b)) {
			t.Fatal(b, d, e, plainDrop(b))
		}
		seen[len(l)]++
		seen[100+len(d)]++
	}
	for _, size := range []int{0, 2, 3, 4, 100, 101, 102, 103} {
		if seen[size] == 0 {
			t.Error("none of size", size)
		}
	}
}

// P2.3: memories of a clash do not agree, without any of them the others do; and what is left after dropping does.
func TestClashesHold(t *testing.T) {
	r := rand.New(rand.NewSource(27))
	for range 500 {
		b := randomBook(r, 2)
		drop, _ := land.Drop(b)
		if e := witnessOf(b, without(b.Memories, drop)); e != api.OK {
			t.Fatal(b, drop, e)
		}
		for k := range drop {
			if e := witnessOf(b, without(b.Memories, slices.Delete(slices.Clone(drop), k, k+1))); e != api.ErrRule {
				t.Fatal(b, drop, k, e)
			}
		}
		clash, e := land.Clash(b)
		if (e == api.OK) != (len(drop) > 0) {
			t.Fatal(b, clash, e, drop)
		}
		if e == api.ErrNone {
			continue
		}
		if e := witnessOf(b, only(b.Memories, clash)); e != api.ErrRule {
			t.Fatal(b, clash, e)
		}
		for k := range clash {
			if e := witnessOf(b, only(b.Memories, slices.Delete(slices.Clone(clash), k, k+1))); e != api.OK {
				t.Fatal(b, clash, k, e)
			}
		}
	}
}

func witnessOf(b api.LandBook, memories []api.LandMemory) api.Errno {
	_, e := land.Witness(withMemories(b, memories))
	return e
}
