package land_test

import (
	"math"
	"math/rand"
	"slices"
	"testing"

	"motu/api"
	"motu/land"
)

// onStrip returns the chapter's book with its last event on the strip 0, taken over by some holder, and with some memories more.
func onStrip(holder int, more ...api.LandMemory) api.LandBook {
	b := chapterBook(more...)
	b.Events[3] = api.LandEvent{Strip: 0, Holder: holder}
	return b
}

// P2.4: the chapter's examples, strips without a line, and holders who do not follow.
func TestLine(t *testing.T) {
	for name, x := range map[string]struct {
		b        api.LandBook
		strip    int
		line     []int
		stranger int
		e        api.Errno
	}{
		"chapter's 0":                    {chapterBook(), 0, []int{0, 1, 2}, -1, api.OK},
		"chapter's 1":                    {chapterBook(), 1, []int{3}, -1, api.OK},
		"chapter's 2":                    {chapterBook(), 2, nil, -1, api.OK},
		"last strip":                     {chapterBook(), 5, nil, -1, api.OK},
		"no such strip":                  {chapterBook(), 6, nil, 0, api.ErrArg},
		"strip below":                    {chapterBook(), -1, nil, 0, api.ErrArg},
		"least strip":                    {chapterBook(), math.MinInt, nil, 0, api.ErrArg},
		"greatest strip":                 {chapterBook(), math.MaxInt, nil, 0, api.ErrArg},
		"no truth":                       {otherBook(), 0, nil, 0, api.ErrRule},
		"no truth, no events":            {otherBook(), 2, nil, 0, api.ErrRule},
		"maybe in one year":              {onStrip(1), 0, nil, 0, api.ErrOpen},
		"surely in one year":             {onStrip(1, memory(1, 3, 0, 0)), 0, nil, 0, api.ErrOpen},
		"maybe before, maybe after":      {eventsBook(2, memory(0, 1, -1, 1)), 0, nil, 0, api.ErrOpen},
		"nothing remembered":             {eventsBook(2), 0, nil, 0, api.ErrOpen},
		"all in a year, each after one":  {eventsBook(3, memory(0, 1, 1, 9), memory(0, 2, 1, 9)), 0, nil, 0, api.ErrOpen},
		"a year before":                  {onStrip(1, memory(3, 1, 1, 5)), 0, []int{0, 3, 1, 2}, 2, api.OK},
		"by an adopted one":              {onStrip(3, memory(3, 1, 1, 5)), 0, []int{0, 3, 1, 2}, 2, api.OK},
		"by the same one again":          {onStrip(0, memory(3, 1, 1, 5)), 0, []int{0, 3, 1, 2}, 1, api.OK},
		"by a grandchild":                {onStrip(2, memory(3, 1, 1, 5)), 0, []int{0, 3, 1, 2}, 1, api.OK},
		"a mother after her child":       {holdersBook([]int{1, 0}, memory(0, 1, 1, 1)), 0, []int{0, 1}, 1, api.OK},
		"a child after her mother":       {holdersBook([]int{0, 1}, memory(0, 1, 1, 1)), 0, []int{0, 1}, -1, api.OK},
		"told the other way round":       {holdersBook([]int{0, 1}, memory(1, 0, 1, 1)), 0, []int{1, 0}, 1, api.OK},
		"only the last one":              {holdersBook([]int{0, 1, 3}, memory(0, 1, 1, 1), memory(1, 2, 1, 1)), 0, []int{0, 1, 2}, 2, api.OK},
		"two of them":                    {holdersBook([]int{0, 0, 0}, memory(0, 1, 1, 1), memory(1, 2, 1, 1)), 0, []int{0, 1, 2}, 1, api.OK},
		"backwards":                      {holdersBook([]int{2, 1, 0}, memory(0, 1, -9, -1), memory(1, 2, -9, -1)), 0, []int{2, 1, 0}, -1, api.OK},
		"in order through another strip": {throughAnother(memory(0, 2, 5, 6), memory(2, 1, -4, -4)), 0, []int{0, 1}, -1, api.OK},
		"not so through another strip":   {throughAnother(memory(0, 2, 5, 6), memory(2, 1, -5, -4)), 0, nil, 0, api.ErrOpen},
		"by the last year alone":         {throughAnother(memory(0, 2, 600, 600), memory(2, 1, -100, 400)), 0, []int{0, 1}, -1, api.OK},
	} {
		before := cloneBook(x.b)
		if l, n, e := land.Line(x.b, x.strip); e != x.e || n != x.stranger || !slices.Equal(l, x.line) {
			t.Errorf("%s: %v %v %v", name, l, n, e)
		}
		if !sameBook(x.b, before) {
			t.Errorf("%s: the book was changed", name)
		}
	}
}

// holdersBook returns a book with the chapter's people, and events on the strip 0 with some holders.
func holdersBook(holders []int, memories ...api.LandMemory) api.LandBook {
	b := api.LandBook{People: chapterBook().People, Memories: memories}
	for _, h := range holders {
		b.Events = append(b.Events, api.LandEvent{Holder: h})
	}
	return b
}

// throughAnother returns a book whose events 0 and 1 are on the strip 0, and the event 2 on the strip 1.
func throughAnother(memories ...api.LandMemory) api.LandBook {
	b := holdersBook([]int{0, 1, 0}, memories...)
	b.Events[2].Strip = 1
	return b
}

// P2.4: the chapter's examples of Heirs, and each way to follow.
func TestHeirs(t *testing.T) {
	none := api.LandPerson{Mother: -1, Adopted: -1}
	family := api.LandBook{
		People: []api.LandPerson{none, none, {Mother: 0, Adopted: -1}, {Mother: 0, Adopted: 1}, {Mother: 1, Adopted: 0}, {Mother: 0, Adopted: 2}, {Mother: -1, Adopted: 1}, {Mother: 2, Adopted: 2}, none, {Mother: 8, Adopted: 5}},
		Events: make([]api.LandEvent, 1),
	}
	for _, x := range []struct {
		b      api.LandBook
		holder int
		want   []int
		e      api.Errno
	}{
		{chapterBook(), 0, []int{1, 3}, api.OK},
		{chapterBook(), 1, []int{2}, api.OK},
		{chapterBook(), 2, nil, api.OK},
		{chapterBook(), 3, nil, api.OK},
		{otherBook(), 0, []int{1, 3}, api.OK},
		{family, 0, []int{2, 3, 4, 5}, api.OK},
		{family, 1, []int{3, 4, 6}, api.OK},
		{family, 2, []int{3, 5, 7}, api.OK},
		{family, 3, []int{2, 5}, api.OK},
		{family, 4, nil, api.OK},
		{family, 5, []int{2, 3, 9}, api.OK},
		{family, 6, nil, api.OK},
		{family, 7, nil, api.OK},
		{family, 8, []int{9}, api.OK},
		{family, 9, nil, api.OK},
		{chapterBook(), 4, nil, api.ErrArg},
		{chapterBook(), -1, nil, api.ErrArg},
		{chapterBook(), math.MaxInt, nil, api.ErrArg},
		{chapterBook(), math.MinInt, nil, api.ErrArg},
		{api.LandBook{}, 0, nil, api.ErrArg},
	} {
		if l, e := land.Heirs(x.b, x.holder); e != x.e || !slices.Equal(l, x.want) {
			t.Errorf("%v %v: %v %v", x.b.People, x.holder, l, e)
		}
	}
}

// P2.4: lines and heirs of books at random.
func TestLinesRandom(t *testing.T) {
	r := rand.New(rand.NewSource(28))
	lines, strangers := [8]int{}, map[int]int{}
	for range 1500 {
		b := randomBook(r, 0)
		for strip := range api.LandStrips {
			want, ok := plainLine(b, strip)
			l, n, e := land.Line(b, strip)
			if ok != (e == api.OK) || !ok && (e != api.ErrOpen || n != 0) || !slices.Equal(l, want) || ok && n != plainStranger(b, l) {
				t.Fatal(b, strip, l, n, e, want)
			}
			lines[len(l)]++
			strangers[n]++
		}
		for holder := range b.People {
			var want []int
			for p := range b.People {
				if plainMayFollow(b, p, holder) {
					want = append(want, p)
				}
			}
			if l, e := land.Heirs(b, holder); e != api.OK || !slices.Equal(l, want) {
				t.Fatal(b, holder, l, e, want)
			}
		}
	}
	if lines[2] < 50 || lines[3] < 20 || strangers[1] < 20 || strangers[2] < 5 || strangers[-1] < 100 {
		t.Error("too few of a kind:", lines, strangers)
	}
}

// P2.4: whatever is true, the events of a line follow each other.
func TestTruthsInLine(t *testing.T) {
	r := rand.New(rand.NewSource(29))
	for range 500 {
		b := randomBook(r, 0)
		for range 4 {
			years := randomTruth(r, b)
			for strip := range 3 {
				l, _, _ := land.Line(b, strip)
				for k := 1; k < len(l); k++ {
					if years[l[k-1]] >= years[l[k]] {
						t.Fatal(b, years, strip, l)
					}
				}
			}
		}
	}
}
