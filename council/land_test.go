package council_test

import (
	"math/rand"
	"slices"
	"testing"

	"motu/api"
	"motu/council"
	"motu/land"
)

// P10.3: the chapter's book, and a memory more.
func TestChapterLand(t *testing.T) {
	c := open(t, chapterAtoll(0))
	checkAll(t,
		check{c.Tell(memory(0, 1, 12, 30)), api.ErrRule}, check{c.Tell(memory(0, 1, 11, 30)), api.OK}, check{c.Tell(memory(0, 1, 1, 10)), api.ErrRule},
		check{c.Tell(memory(0, 1, 30, 11)), api.ErrArg}, check{c.Tell(memory(0, 1, -1001, 0)), api.ErrArg}, check{c.Tell(memory(0, 1, 0, 1001)), api.ErrArg},
		check{c.Tell(memory(2, 2, 0, 0)), api.ErrArg}, check{c.Tell(memory(-1, 0, 0, 0)), api.ErrArg}, check{c.Tell(memory(0, 4, 0, 0)), api.ErrArg},
		check{c.Tell(memory(0, 1, -1000, 1000)), api.OK},
	)
	for _, x := range []struct {
		strip, stranger int
		line            []int
		e               api.Errno
	}{{0, -1, []int{0, 1, 2}, api.OK}, {1, -1, []int{3}, api.OK}, {5, -1, nil, api.OK}, {6, 0, nil, api.ErrArg}, {-1, 0, nil, api.ErrArg}} {
		if line, stranger, e := c.Line(x.strip); !slices.Equal(line, x.line) || stranger != x.stranger || e != x.e {
			t.Error(x, line, stranger, e)
		}
	}
}

// P10.3: a line that only a memory that was told makes, and a book that does not agree from the first on.
func TestToldLine(t *testing.T) {
	a := chapterAtoll(0)
	a.Book.Memories = nil
	c := open(t, a)
	if line, stranger, e := c.Line(0); len(line) != 0 || stranger != 0 || e != api.ErrOpen {
		t.Error(line, stranger, e)
	}
	doAll(t, c, "tell 2 0 1 9", "tell 0 1 1 9")
	if line, stranger, e := c.Line(0); !slices.Equal(line, []int{2, 0, 1}) || stranger != 1 || e != api.OK {
		t.Error(line, stranger, e)
	}
	a.Book.Memories = []api.LandMemory{memory(0, 1, 1, 2), memory(0, 1, 3, 4)}
	c = open(t, a)
	checkAll(t, check{c.Tell(memory(2, 3, -1000, 1000)), api.ErrRule}, check{c.Tell(memory(0, 1, 1, 4)), api.ErrRule}, check{c.Tell(memory(0, 1, 4, 1)), api.ErrArg})
	if line, stranger, e := c.Line(0); len(line) != 0 || stranger != 0 || e != api.ErrRule {
		t.Error(line, stranger, e)
	}
}

// smallTruths returns all truths of a book in the first years, which are enough for events and memories that are few, and for spans that are short.
func smallTruths(t *testing.T, b api.LandBook) [][]int {
	t.Helper()
	const years = 9
	var all [][]int
	count := 1
	for range b.Events {
		count *= years
	}
	for number := range count {
		x := make([]int, len(b.Events))
		for event := range x {
			x[event] = number % years
			number /= years
		}
		agrees, e := land.Agrees(b, x)
		if e != api.OK {
			t.Fatal(b, x, e)
		}
		if agrees {
			all = append(all, x)
		}
	}
	return all
}

// isInOrder reports whether events of a truth are one after the other.
func isInOrder(line, years []int) bool {
	for k := 1; k < len(line); k++ {
		if years[line[k-1]] >= years[line[k]] {
			return false
		}
	}
	return true
}

// wantLine asks for the line of a strip, which must be so in all truths, and be there if any order is.
func wantLine(t *testing.T, c *council.Council, b api.LandBook, strip int, truths [][]int) api.Errno {
	t.Helper()
	var events []int
	for event, x := range b.Events {
		if x.Strip == strip {
			events = append(events, event)
		}
	}
	if len(truths) > 0 {
		slices.SortFunc(events, func(x, y int) int { return truths[0][x] - truths[0][y] })
	}
	is := !slices.ContainsFunc(truths, func(years []int) bool { return !isInOrder(events, years) })
	line, _, e := c.Line(strip)
	switch {
	case len(truths) == 0 && e == api.ErrRule, len(truths) > 0 && !is && e == api.ErrOpen:
	case len(truths) > 0 && is && e == api.OK && slices.Equal(line, events):
	default:
		t.Fatal(b, strip, line, e, events)
	}
	return e
}

// P0.2, P10.3: a memory is refused just if there is no truth in which it and all others are true, and lines are so in all truths.
func TestAllTruths(t *testing.T) {
	r := rand.New(rand.NewSource(104))
	told := map[api.Errno]int{}
	lines := map[api.Errno]int{}
	for range 150 {
		a := chapterAtoll(0)
		a.Book = randomBook(r)
		c := open(t, a)
		b := a.Book
		for range 6 {
			m := randomMemory(r, len(b.Events))
			more := b
			more.Memories = append(slices.Clone(b.Memories), m)
			truths := smallTruths(t, more)
			e := c.Tell(m)
			if (e == api.OK) != (len(truths) > 0) || e != api.OK && e != api.ErrRule {
				t.Fatal(b, m, e)
			}
			told[e]++
			if e == api.OK {
				b = more
			}
			truths = smallTruths(t, b)
			for strip := range 2 {
				lines[wantLine(t, c, b, strip, truths)]++
			}
		}
	}
	if told[api.OK] < 100 || told[api.ErrRule] < 100 || lines[api.OK] < 100 || lines[api.ErrOpen] < 100 || lines[api.ErrRule] < 100 {
		t.Error(told, lines)
	}
}

// P0.2, P10.3: in whatever order memories are told, lines are the same.
func TestOrderOfMemories(t *testing.T) {
	r := rand.New(rand.NewSource(105))
	lines := 0
	for range 300 {
		a := chapterAtoll(0)
		a.Book = randomBook(r)
		a.Book.Memories = nil
		c, other := open(t, a), open(t, a)
		var told []api.LandMemory
		for range 4 {
			if m := randomMemory(r, len(a.Book.Events)); c.Tell(m) == api.OK {
				told = append(told, m)
			}
		}
		for _, k := range r.Perm(len(told)) {
			checkAll(t, check{other.Tell(told[k]), api.OK})
		}
		for strip := range 2 {
			line, stranger, e := c.Line(strip)
			line2, stranger2, e2 := other.Line(strip)
			if !slices.Equal(line, line2) || stranger != stranger2 || e != e2 {
				t.Fatal(a.Book, told, strip)
			}
			lines += len(line) / 2
		}
	}
	if lines < 50 {
		t.Error(lines)
	}
}
