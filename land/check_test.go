package land_test

import (
	"math"
	"math/rand"
	"slices"
	"testing"

	"motu/api"
	"motu/land"
)

type bookChange struct {
	name   string
	change func(*api.LandBook)
}

// goodBooks are changes that leave the chapter's book as defined, and agreeing; many reach a bound.
func goodBooks() []bookChange {
	return []bookChange{
		{"as it is", func(b *api.LandBook) {}},
		{"one person and one event", func(b *api.LandBook) { *b = eventsBook(1) }},
		{"all people", func(b *api.LandBook) {
			b.People = append(b.People, slices.Repeat([]api.LandPerson{{Mother: -1, Adopted: -1}}, api.LandPeople-4)...)
			b.People[9] = api.LandPerson{Mother: 8, Adopted: 8}
			b.Events[3].Holder = 9
		}},
		{"all events", func(b *api.LandBook) {
			b.Events = append(b.Events, make([]api.LandEvent, api.LandEvents-4)...)
			b.Memories[3] = memory(6, 5, 0, 0)
		}},
		{"nil memories", func(b *api.LandBook) { b.Memories = nil }},
		{"empty memories", func(b *api.LandBook) { b.Memories = []api.LandMemory{} }},
		{"all memories", func(b *api.LandBook) { b.Memories = slices.Repeat(b.Memories[:1], api.LandMemories) }},
		{"mother 0", func(b *api.LandBook) { b.People[3].Mother = 0 }},
		{"mother just before", func(b *api.LandBook) { b.People[3].Mother = 2 }},
		{"adopted just before", func(b *api.LandBook) { b.People[1].Adopted = 0 }},
		{"mother has adopted, too", func(b *api.LandBook) { b.People[3].Mother = 0 }},
		{"last strip", func(b *api.LandBook) { b.Events[0].Strip = api.LandStrips - 1 }},
		{"last holder", func(b *api.LandBook) { b.Events[0].Holder = 3 }},
		{"last events", func(b *api.LandBook) { b.Memories[0] = memory(3, 0, -15, -7) }},
		{"any years", func(b *api.LandBook) { b.Memories[0].Years = span(-last, last) }},
		{"farthest after", func(b *api.LandBook) { b.Memories = []api.LandMemory{memory(0, 1, last, last)} }},
		{"farthest before", func(b *api.LandBook) { b.Memories = []api.LandMemory{memory(0, 1, -last, -last)} }},
	}
}

// badBooks are changes that leave the chapter's book not as defined, each in one place only.
func badBooks() []bookChange {
	all := []bookChange{
		{"zero value", func(b *api.LandBook) { *b = api.LandBook{} }},
		{"no people", func(b *api.LandBook) { b.People = nil }},
		{"no people nor events", func(b *api.LandBook) { *b = api.LandBook{Memories: b.Memories} }},
		{"people", func(b *api.LandBook) {
			b.People = slices.Repeat([]api.LandPerson{{Mother: -1, Adopted: -1}}, api.LandPeople+1)
		}},
		{"no events", func(b *api.LandBook) { b.Events, b.Memories = nil, nil }},
		{"empty events", func(b *api.LandBook) { b.Events, b.Memories = []api.LandEvent{}, nil }},
		{"events", func(b *api.LandBook) { b.Events = make([]api.LandEvent, api.LandEvents+1) }},
		{"memories", func(b *api.LandBook) { b.Memories = slices.Repeat(b.Memories[:1], api.LandMemories+1) }},
	}
	for k := range 4 {
		all = append(all, badItems(k)...)
	}
	return all
}

func badItems(k int) []bookChange {
	all := []bookChange{}
	for _, n := range []int{math.MinInt, -2, k, k + 1, math.MaxInt} {
		all = append(all, bookChange{"mother", func(b *api.LandBook) { b.People[k].Mother = n }},
			bookChange{"adopted", func(b *api.LandBook) { b.People[k].Adopted = n }})
	}
	for _, n := range []int{math.MinInt, -1, api.LandStrips, math.MaxInt} {
		all = append(all, bookChange{"strip", func(b *api.LandBook) { b.Events[k].Strip = n }})
	}
	for _, n := range []int{math.MinInt, -1, 4, math.MaxInt} {
		all = append(all, bookChange{"holder", func(b *api.LandBook) { b.Events[k].Holder = n }},
			bookChange{"from", func(b *api.LandBook) { b.Memories[k].From = n }},
			bookChange{"to", func(b *api.LandBook) { b.Memories[k].To = n }})
	}
	for _, s := range []api.Span{span(1, 0), span(last, -last), span(-last-1, 0), span(0, last+1), span(math.MinInt, 0), span(0, math.MaxInt), span(last+1, last+1), span(-last-1, -last-1), span(math.MaxInt, math.MinInt)} {
		all = append(all, bookChange{"years", func(b *api.LandBook) { b.Memories[k].Years = s }})
	}
	return append(all, bookChange{"same events", func(b *api.LandBook) { b.Memories[k].To = b.Memories[k].From }})
}

// P2.1: what Check returns.
func TestCheck(t *testing.T) {
	for _, x := range goodBooks() {
		b := chapterBook()
		x.change(&b)
		before := cloneBook(b)
		if e := land.Check(b); e != api.OK {
			t.Errorf("%s: %v", x.name, e)
		}
		if _, e := land.Years(b); e != api.OK {
			t.Errorf("%s: Years: %v", x.name, e)
		}
		if !sameBook(b, before) {
			t.Errorf("%s: the book was changed", x.name)
		}
	}
	for _, x := range badBooks() {
		b := chapterBook()
		x.change(&b)
		if e := land.Check(b); e != api.ErrArg {
			t.Errorf("%s: %v", x.name, e)
		}
	}
	if e := land.Check(otherBook()); e != api.OK {
		t.Error("a book that does not agree:", e)
	}
}

// P2.1 to P2.4 and P2.6: no function takes a book that Check's section does not allow.
func TestBadBooks(t *testing.T) {
	for _, x := range badBooks() {
		b := chapterBook()
		x.change(&b)
		wantErrors(t, x.name, b, api.ErrArg)
		if is, e := land.Agrees(b, []int{1, 11, 16, 11}); e != api.ErrArg || is {
			t.Errorf("%s: Agrees: %v %v", x.name, is, e)
		}
		if l, e := land.Clash(b); e != api.ErrArg || len(l) != 0 {
			t.Errorf("%s: Clash: %v %v", x.name, l, e)
		}
		if l, e := land.Drop(b); e != api.ErrArg || len(l) != 0 {
			t.Errorf("%s: Drop: %v %v", x.name, l, e)
		}
		if l, e := land.Heirs(b, 0); e != api.ErrArg || len(l) != 0 {
			t.Errorf("%s: Heirs: %v %v", x.name, l, e)
		}
		if s, e := land.Print(b); e != api.ErrArg || s != "" {
			t.Errorf("%s: Print: %q %v", x.name, s, e)
		}
	}
}

// wantErrors asks for an error, with zero values, of all that needs a book that agrees.
func wantErrors(t *testing.T, name string, b api.LandBook, want api.Errno) {
	t.Helper()
	if l, e := land.Witness(b); e != want || len(l) != 0 {
		t.Errorf("%s: Witness: %v %v", name, l, e)
	}
	if l, e := land.Years(b); e != want || len(l) != 0 {
		t.Errorf("%s: Years: %v %v", name, l, e)
	}
	if s, e := land.After(b, 0, 0); e != want || s != (api.Span{}) {
		t.Errorf("%s: After: %v %v", name, s, e)
	}
	if l, n, e := land.Line(b, 0); e != want || n != 0 || len(l) != 0 {
		t.Errorf("%s: Line: %v %v %v", name, l, n, e)
	}
}

// P2.1, P2.2 and P2.4: a book that does not agree; but ErrArg comes before ErrRule.
func TestNoTruth(t *testing.T) {
	books := []api.LandBook{
		otherBook(),
		eventsBook(2, memory(0, 1, 1, 5), memory(0, 1, 6, 9)),
		eventsBook(2, memory(0, 1, 1, 5), memory(1, 0, 1, 5)),
		// only the last year makes these impossible
		eventsBook(3, memory(0, 1, last, last), memory(1, 2, 1, 1)),
		eventsBook(3, memory(0, 1, 600, 700), memory(1, 2, 401, 700)),
		eventsBook(3, memory(0, 1, -600, -600), memory(1, 2, -401, -401)),
		eventsBook(7, memory(0, 1, 166, 170), memory(1, 2, 167, 170), memory(2, 3, 167, 170), memory(3, 4, 167, 170), memory(4, 5, 167, 170), memory(5, 6, 167, 170)),
		eventsBook(7, memory(0, 1, 1, 2), memory(1, 2, 1, 2), memory(2, 3, 1, 2), memory(3, 4, 1, 2), memory(4, 5, 1, 2), memory(5, 6, 1, 2), memory(6, 0, -5, last)),
	}
	for _, b := range books {
		wantErrors(t, "no truth", b, api.ErrRule)
		for _, n := range []int{-1, len(b.Events), math.MinInt, math.MaxInt} {
			if s, e := land.After(b, 0, n); e != api.ErrArg || s != (api.Span{}) {
				t.Error(n, s, e)
			}
			if s, e := land.After(b, n, 0); e != api.ErrArg || s != (api.Span{}) {
				t.Error(n, s, e)
			}
		}
		for _, n := range []int{-1, api.LandStrips, math.MinInt, math.MaxInt} {
			if l, k, e := land.Line(b, n); e != api.ErrArg || k != 0 || len(l) != 0 {
				t.Error(n, l, k, e)
			}
		}
		if is, e := land.Agrees(b, make([]int, len(b.Events))); e != api.OK || is {
			t.Error(is, e)
		}
		if l, e := land.Heirs(b, 0); e != api.OK || !slices.Equal(l, []int{1, 3}[:min(2, len(b.People)/2)]) {
			t.Error(l, e)
		}
	}
	// one year less, and there is a truth
	if w, e := land.Witness(eventsBook(3, memory(0, 1, 600, 700), memory(1, 2, 400, 700))); e != api.OK || !slices.Equal(w, []int{0, 600, 1000}) {
		t.Error(w, e)
	}
	if w, e := land.Witness(withMemories(books[7], append(slices.Clone(books[7].Memories[:6]), memory(6, 0, -6, last)))); e != api.OK || !slices.Equal(w, []int{0, 1, 2, 3, 4, 5, 6}) {
		t.Error(w, e)
	}
}

// P0.1: whatever the arguments are, the functions return.
func TestAnyArgument(t *testing.T) {
	numbers := []int{math.MinInt, -last - 1, -1, 0, 3, 4, last, math.MaxInt}
	fields := func(b *api.LandBook) []*int {
		p, x, m, n := &b.People[2], &b.Events[1], &b.Memories[1], &b.Memories[3]
		return []*int{
			&p.Mother, &p.Adopted, &x.Strip, &x.Holder, &m.From, &m.To, &m.Years.Low, &m.Years.High, &n.From, &n.To, &n.Years.Low, &n.Years.High,
		}
	}
	b := chapterBook()
	count := len(fields(&b))
	for i := range count {
		for j := range i + 1 {
			for _, u := range numbers {
				for _, v := range numbers {
					b = chapterBook()
					all := fields(&b)
					*all[i], *all[j] = u, v
					callAll(t, b, v, []int{u, v, u, v})
				}
			}
		}
	}
	for l := range 13 {
		b = api.LandBook{People: make([]api.LandPerson, l), Events: make([]api.LandEvent, 12-l), Memories: make([]api.LandMemory, l)}
		callAll(t, b, l, make([]int, l))
		for p := range b.People {
			b.People[p] = api.LandPerson{Mother: -1, Adopted: -1}
		}
		callAll(t, b, l, make([]int, 12-l))
		b.Memories = nil
		callAll(t, b, l, make([]int, 12-l))
	}
}

// callAll calls everything; if Check refuses the book, everything must.
func callAll(t *testing.T, b api.LandBook, n int, years []int) {
	t.Helper()
	e := land.Check(b)
	var all [9]api.Errno
	_, all[0] = land.Clash(b)
	_, all[1] = land.Drop(b)
	_, all[2] = land.Witness(b)
	_, all[3] = land.Years(b)
	_, all[4] = land.After(b, n, 0)
	_, _, all[5] = land.Line(b, n)
	_, all[6] = land.Heirs(b, n)
	_, all[7] = land.Agrees(b, years)
	_, all[8] = land.Print(b)
	if e != api.OK {
		for k, f := range all {
			if e != api.ErrArg || f != e {
				t.Error(b, n, k, e, f)
			}
		}
		return
	}
	agrees := all[0] == api.ErrNone
	if all[1] != api.OK || all[8] != api.OK || !agrees && all[0] != api.OK || agrees != (all[2] == api.OK) || agrees != (all[3] == api.OK) {
		t.Error(b, n, all)
	}
}

// R4 and R8: equal calls have equal results, whatever was done to the results of others, and leave the book as it is.
func TestRepeated(t *testing.T) {
	r := rand.New(rand.NewSource(21))
	for range 200 {
		b := randomBook(r, 4)
		before := cloneBook(b)
		var texts [2]string
		var lists [2][][]int
		for k := range 2 {
			texts[k], _ = land.Print(b)
			lists[k] = allLists(b)
			if k == 0 {
				for _, l := range allLists(b) {
					spoil(l)
				}
			}
		}
		if texts[0] != texts[1] || !slices.EqualFunc(lists[0], lists[1], slices.Equal) || !sameBook(b, before) {
			t.Fatal(b, texts, lists)
		}
	}
}

func spoil(l []int) {
	for k := range l {
		l[k] = -7
	}
}

// allLists returns all that is told of a book, as lists of numbers.
func allLists(b api.LandBook) [][]int {
	witness, e1 := land.Witness(b)
	clash, e2 := land.Clash(b)
	drop, e3 := land.Drop(b)
	all := [][]int{witness, clash, drop, {int(e1), int(e2), int(e3)}}
	spans, _ := land.Years(b)
	for _, s := range spans {
		all = append(all, []int{s.Low, s.High})
	}
	for strip := range api.LandStrips {
		line, n, e := land.Line(b, strip)
		all = append(all, line, []int{n, int(e)})
	}
	for p := range b.People {
		heirs, _ := land.Heirs(b, p)
		all = append(all, heirs)
	}
	return all
}
