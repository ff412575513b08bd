package land_test

import (
	"math/rand"
	"slices"
	"testing"

	"motu/api"
	"motu/land"
)

// mixed returns a book with its memories in another order.
func mixed(r *rand.Rand, b api.LandBook) api.LandBook {
	memories := slices.Clone(b.Memories)
	r.Shuffle(len(memories), func(i, j int) { memories[i], memories[j] = memories[j], memories[i] })
	return withMemories(b, memories)
}

// P2.5: the chapter's memories, in all orders.
func TestAllOrders(t *testing.T) {
	for _, b := range []api.LandBook{chapterBook(), otherBook()} {
		var orders func(told, left []api.LandMemory)
		orders = func(told, left []api.LandMemory) {
			if len(left) == 0 {
				wantSame(t, b, withMemories(b, told))
			}
			for k := range left {
				orders(append(slices.Clone(told), left[k]), slices.Delete(slices.Clone(left), k, k+1))
			}
		}
		orders(nil, b.Memories)
	}
}

// P2.5: memories of books at random, in an order at random.
func TestOrdersRandom(t *testing.T) {
	r := rand.New(rand.NewSource(30))
	for range 1000 {
		b := randomBook(r, r.Intn(6))
		wantSame(t, b, mixed(r, b))
	}
}

// wantSame asks for the same bounds, lines and numbers of memories to drop of two books that differ in the order of their memories.
func wantSame(t *testing.T, a, b api.LandBook) {
	t.Helper()
	years, e := land.Years(a)
	years2, e2 := land.Years(b)
	if e != e2 || !slices.Equal(years, years2) {
		t.Fatal(a, b, years, e, years2, e2)
	}
	for from := range a.Events {
		for to := range a.Events {
			s, e := land.After(a, from, to)
			s2, e2 := land.After(b, from, to)
			if s != s2 || e != e2 {
				t.Fatal(a, b, from, to, s, e, s2, e2)
			}
		}
	}
	for strip := range api.LandStrips {
		l, n, e := land.Line(a, strip)
		l2, n2, e2 := land.Line(b, strip)
		if !slices.Equal(l, l2) || n != n2 || e != e2 {
			t.Fatal(a, b, strip, l, n, e, l2, n2, e2)
		}
	}
	drop, e := land.Drop(a)
	drop2, e2 := land.Drop(b)
	clash, e3 := land.Clash(a)
	clash2, e4 := land.Clash(b)
	if len(drop) != len(drop2) || e != e2 || len(clash) != len(clash2) || e3 != e4 {
		t.Fatal(a, b, drop, e, drop2, e2, clash, e3, clash2, e4)
	}
}

// P2.7: a memory more never makes a book agree that did not, nor widens bounds, nor takes a line away.
func TestOneMemoryMore(t *testing.T) {
	r := rand.New(rand.NewSource(31))
	seen := map[api.Errno]int{}
	for range 1500 {
		b := randomBook(r, 3)
		if len(b.Memories) == 0 {
			continue
		}
		less := withMemories(b, b.Memories[:len(b.Memories)-1])
		if b.Memories[0].Years.Low%2 == 0 {
			less.Memories = b.Memories[1:]
		}
		before, e := land.Years(less)
		after, e2 := land.Years(b)
		if e != api.OK && e2 == api.OK {
			t.Fatal(b, less, e, e2)
		}
		seen[e2]++
		if e2 != api.OK {
			continue
		}
		for event, s := range after {
			if s.Low < before[event].Low || s.High > before[event].High {
				t.Fatal(b, less, event, before, after)
			}
		}
		for from := range b.Events {
			for to := range b.Events {
				s, _ := land.After(less, from, to)
				s2, _ := land.After(b, from, to)
				if s2.Low < s.Low || s2.High > s.High {
					t.Fatal(b, less, from, to, s, s2)
				}
			}
		}
		for strip := range api.LandStrips {
			l, n, e := land.Line(less, strip)
			l2, n2, e2 := land.Line(b, strip)
			if e == api.OK && (e2 != api.OK || n2 != n || !slices.Equal(l, l2)) {
				t.Fatal(b, less, strip, l, n, e, l2, n2, e2)
			}
		}
	}
	if seen[api.OK] < 300 || seen[api.ErrRule] < 300 {
		t.Error("too few of a kind:", seen)
	}
}

// P2.7: the chapter's book c is b with a memory more; one that says nothing new leaves all as it was.
func TestMemoriesMore(t *testing.T) {
	b := chapterBook()
	if _, e := land.Years(told(b, memory(0, 1, 12, 30))); e != api.ErrRule {
		t.Error(e)
	}
	wantSame(t, b, told(b, memory(3, 0, -11, -7)))
	if s, e := land.Years(told(b, memory(3, 0, -10, -7))); e != api.OK || !slices.Equal(s, []api.Span{span(0, 985), span(10, 995), span(15, 1000), span(7, 995)}) {
		t.Error(s, e)
	}
	if s, e := land.Years(told(b, memory(3, 0, -8, -7))); e != api.OK || !slices.Equal(s, []api.Span{span(0, 985), span(10, 995), span(15, 1000), span(7, 993)}) {
		t.Error(s, e)
	}
}
