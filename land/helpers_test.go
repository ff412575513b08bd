package land_test

import (
	"math/rand"
	"slices"

	"motu/api"
)

const last = api.LandYears

func span(low, high int) api.Span { return api.Span{Low: low, High: high} }

func memory(from, to, low, high int) api.LandMemory {
	return api.LandMemory{From: from, To: to, Years: span(low, high)}
}

// chapterBook returns the book b of the chapter's examples, with some memories more.
func chapterBook(more ...api.LandMemory) api.LandBook {
	return api.LandBook{
		People:   []api.LandPerson{{Mother: -1, Adopted: -1}, {Mother: 0, Adopted: -1}, {Mother: 1, Adopted: -1}, {Mother: -1, Adopted: 0}},
		Events:   []api.LandEvent{{Strip: 0, Holder: 0}, {Strip: 0, Holder: 1}, {Strip: 0, Holder: 2}, {Strip: 1, Holder: 1}},
		Memories: append([]api.LandMemory{memory(0, 1, 10, 20), memory(1, 2, 5, 8), memory(0, 2, 12, 16), memory(1, 3, -3, 0)}, more...),
	}
}

// otherBook returns the book c of the chapter's examples, which does not agree.
func otherBook() api.LandBook { return chapterBook(memory(0, 1, 12, 30)) }

// eventsBook returns a book with one person, some events on the strip 0, and memories.
func eventsBook(events int, memories ...api.LandMemory) api.LandBook {
	return api.LandBook{
		People:   []api.LandPerson{{Mother: -1, Adopted: -1}},
		Events:   make([]api.LandEvent, events),
		Memories: memories,
	}
}

func withMemories(b api.LandBook, memories []api.LandMemory) api.LandBook {
	b.Memories = memories
	return b
}

// told returns a book with one memory more.
func told(b api.LandBook, m api.LandMemory) api.LandBook {
	return withMemories(b, append(slices.Clone(b.Memories), m))
}

func cloneBook(b api.LandBook) api.LandBook {
	return api.LandBook{People: slices.Clone(b.People), Events: slices.Clone(b.Events), Memories: slices.Clone(b.Memories)}
}

func sameBook(a, b api.LandBook) bool {
	return slices.Equal(a.People, b.People) && slices.Equal(a.Events, b.Events) && slices.Equal(a.Memories, b.Memories)
}

func isTrue(m api.LandMemory, years []int) bool {
	d := years[m.To] - years[m.From]
	return m.Years.Low <= d && d <= m.Years.High
}

func allTrue(memories []api.LandMemory, years []int) bool {
	for _, m := range memories {
		if !isTrue(m, years) {
			return false
		}
	}
	return true
}

// plainEarliest returns the earliest truth of memories, and whether there is one: all events are moved to later years, only as far as a memory forces them.
func plainEarliest(events int, memories []api.LandMemory) ([]int, bool) {
	years := make([]int, events)
	for moved := true; moved; {
		moved = false
		for _, m := range memories {
			if least := years[m.From] + m.Years.Low; years[m.To] < least {
				years[m.To], moved = least, true
			}
			if least := years[m.To] - m.Years.High; years[m.From] < least {
				years[m.From], moved = least, true
			}
			if years[m.To] > last || years[m.From] > last {
				return nil, false
			}
		}
	}
	return years, true
}

// plainAgrees reports whether memories, and some more, agree.
func plainAgrees(events int, memories []api.LandMemory, more ...api.LandMemory) bool {
	_, ok := plainEarliest(events, append(slices.Clone(memories), more...))
	return ok
}

// canBe reports whether there is a truth in which an event is so many years after another one.
func canBe(b api.LandBook, from, to, years int) bool {
	if from == to {
		return years == 0 && plainAgrees(len(b.Events), b.Memories)
	}
	return -last <= years && years <= last && plainAgrees(len(b.Events), b.Memories, memory(from, to, years, years))
}

// canBeIn reports whether there is a truth in which an event is in some year: then one more event in the year 0, before which nothing is, can be so many years before it.
func canBeIn(b api.LandBook, event, year int) bool {
	first := len(b.Events)
	more := []api.LandMemory{memory(first, event, year, year)}
	for e := range b.Events {
		more = append(more, memory(first, e, 0, last))
	}
	return 0 <= year && year <= last && plainAgrees(first+1, b.Memories, more...)
}

// plainSets returns all lists of some of the numbers less than count: shorter ones first, and those of one length in lexicographic order.
func plainSets(count int) [][]int {
	var all [][]int
	var next func(list []int, from int)
	next = func(list []int, from int) {
		all = append(all, list)
		for k := from; k < count; k++ {
			next(append(slices.Clone(list), k), k+1)
		}
	}
	next(nil, 0)
	slices.SortFunc(all, func(a, b []int) int {
		if len(a) != len(b) {
			return len(a) - len(b)
		}
		return slices.Compare(a, b)
	})
	return all
}

// only returns the memories of some numbers, without the others.
func only(memories []api.LandMemory, numbers []int) []api.LandMemory {
	var some []api.LandMemory
	for _, k := range numbers {
		some = append(some, memories[k])
	}
	return some
}

// without returns all memories but those of some numbers.
func without(memories []api.LandMemory, numbers []int) []api.LandMemory {
	var some []api.LandMemory
	for k, m := range memories {
		if !slices.Contains(numbers, k) {
			some = append(some, m)
		}
	}
	return some
}

func plainClash(b api.LandBook) ([]int, bool) {
	for _, list := range plainSets(len(b.Memories)) {
		if !plainAgrees(len(b.Events), only(b.Memories, list)) {
			return list, true
		}
	}
	return nil, false
}

func plainDrop(b api.LandBook) []int {
	for _, list := range plainSets(len(b.Memories)) {
		if plainAgrees(len(b.Events), without(b.Memories, list)) {
			return list
		}
	}
	return nil
}

// plainLine returns the line of a strip in a book that agrees, and whether it has one: of each two events, just one can be first or in the same year.
func plainLine(b api.LandBook, strip int) ([]int, bool) {
	var line []int
	for e, x := range b.Events {
		if x.Strip == strip {
			line = append(line, e)
		}
	}
	before := func(a, b2 int) bool { return plainAgrees(len(b.Events), b.Memories, memory(a, b2, 0, last)) }
	for _, e := range line {
		for _, f := range line {
			if e != f && before(e, f) && before(f, e) {
				return nil, false
			}
		}
	}
	slices.SortFunc(line, func(e, f int) int {
		if before(e, f) {
			return -1
		}
		return 1
	})
	return line, true
}

// plainMayFollow is the section 'Lines', written down a second time.
func plainMayFollow(b api.LandBook, person, holder int) bool {
	p, h := b.People[person], b.People[holder]
	return person != holder && (p.Mother == holder || p.Adopted == holder || h.Mother >= 0 && p.Mother == h.Mother)
}

func plainStranger(b api.LandBook, line []int) int {
	for k := range line {
		if k > 0 && !plainMayFollow(b, b.Events[line[k]].Holder, b.Events[line[k-1]].Holder) {
			return k
		}
	}
	return -1
}

func randomPeople(r *rand.Rand) []api.LandPerson {
	people := make([]api.LandPerson, 1+r.Intn(api.LandPeople))
	for k := range people {
		people[k] = api.LandPerson{Mother: r.Intn(k+1) - 1, Adopted: r.Intn(k+1) - 1}
		if r.Intn(2) == 0 {
			people[k].Adopted = -1
		}
	}
	return people
}

// randomBook returns a book of which most memories are true of some hidden years; a memory is wrong once in so many (never, if 0).
func randomBook(r *rand.Rand, wrong int) api.LandBook {
	b := api.LandBook{People: randomPeople(r)}
	reach := []int{6, 40, last}[r.Intn(3)]
	var years []int
	for range 1 + r.Intn(api.LandEvents) {
		b.Events = append(b.Events, api.LandEvent{Strip: r.Intn(3), Holder: r.Intn(len(b.People))})
		years = append(years, r.Intn(reach+1))
	}
	if len(b.Events) < 2 {
		return b
	}
	wide := 1 + r.Intn(reach)
	for range r.Intn(api.LandMemories + 1) {
		order := r.Perm(len(b.Events))
		d := years[order[1]] - years[order[0]]
		if wrong > 0 && r.Intn(wrong) == 0 {
			d += r.Intn(2*wide+1) - wide
		}
		low, high := max(-last, d-r.Intn(wide)), min(last, d+r.Intn(wide))
		b.Memories = append(b.Memories, memory(order[0], order[1], min(low, last), max(high, -last)))
	}
	return b
}

// randomTruth returns a truth of a book that agrees: events are set one by one to years that are possible with those before.
func randomTruth(r *rand.Rand, b api.LandBook) []int {
	first := len(b.Events)
	set := slices.Clone(b.Memories)
	for e := range b.Events {
		set = append(set, memory(first, e, 0, last))
	}
	for e := range b.Events {
		low, _ := plainEarliest(first+1, set)
		year := low[e] + r.Intn(last+1-low[e])
		for year > low[e] && !plainAgrees(first+1, set, memory(first, e, year, year)) {
			year = low[e] + (year-low[e])/2
		}
		set = append(set, memory(first, e, year, year))
	}
	years, _ := plainEarliest(first+1, set)
	return years[:first]
}
