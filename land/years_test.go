package land_test

import (
	"math"
	"math/rand"
	"slices"
	"testing"

	"motu/api"
	"motu/land"
)

// P2.1: the chapter's examples of Agrees, years at their bounds, and years that are not as defined.
func TestAgrees(t *testing.T) {
	for _, x := range []struct {
		b     api.LandBook
		years []int
		want  bool
		e     api.Errno
	}{
		{chapterBook(), []int{1, 12, 16, 12}, false, api.OK},
		{chapterBook(), []int{1, 11, 16, 12}, false, api.OK},
		{chapterBook(), []int{1, 11, 16, 11}, true, api.OK},
		{chapterBook(), []int{0, 10, 15, 7}, true, api.OK},
		{chapterBook(), []int{0, 10, 15, 6}, false, api.OK},
		{chapterBook(), []int{985, 995, 1000, 995}, true, api.OK},
		{eventsBook(1), []int{0}, true, api.OK},
		{eventsBook(1), []int{last}, true, api.OK},
		{eventsBook(2), []int{0, last}, true, api.OK},
		{eventsBook(2, memory(0, 1, last, last)), []int{0, last}, true, api.OK},
		{eventsBook(2, memory(0, 1, -last, -last)), []int{last, 0}, true, api.OK},
		{eventsBook(2, memory(0, 1, 3, 5)), []int{4, 6}, false, api.OK},
		{eventsBook(2, memory(0, 1, 3, 5)), []int{4, 7}, true, api.OK},
		{eventsBook(2, memory(0, 1, 3, 5)), []int{4, 9}, true, api.OK},
		{eventsBook(2, memory(0, 1, 3, 5)), []int{4, 10}, false, api.OK},
		{eventsBook(2, memory(1, 0, 3, 5)), []int{4, 9}, false, api.OK},
		{eventsBook(2, memory(1, 0, 3, 5)), []int{9, 4}, true, api.OK},
		{eventsBook(2, memory(0, 1, 3, 5), memory(0, 1, 5, 6)), []int{4, 8}, false, api.OK},
		{otherBook(), []int{1, 11, 16, 11}, false, api.OK},
		{chapterBook(), nil, false, api.ErrArg},
		{chapterBook(), []int{1, 11, 16}, false, api.ErrArg},
		{chapterBook(), []int{1, 11, 16, 11, 0}, false, api.ErrArg},
		{chapterBook(), []int{-1, 11, 16, 11}, false, api.ErrArg},
		{chapterBook(), []int{1, 11, 16, -1}, false, api.ErrArg},
		{chapterBook(), []int{1, 11, 16, last + 1}, false, api.ErrArg},
		{chapterBook(), []int{last + 1, 11, 16, 11}, false, api.ErrArg},
		{chapterBook(), []int{1, math.MinInt, math.MaxInt, 11}, false, api.ErrArg},
	} {
		old := slices.Clone(x.years)
		if is, e := land.Agrees(x.b, x.years); is != x.want || e != x.e || !slices.Equal(x.years, old) {
			t.Errorf("%v %v: %v %v", x.b.Memories, x.years, is, e)
		}
	}
}

// P2.1: Agrees, for books and years at random.
func TestAgreesRandom(t *testing.T) {
	r := rand.New(rand.NewSource(22))
	seen := map[bool]int{}
	for range 3000 {
		b := randomBook(r, 0)
		years := randomTruth(r, b)
		if is, e := land.Agrees(b, years); !is || e != api.OK || !allTrue(b.Memories, years) {
			t.Fatal(b, years, is, e)
		}
		years[r.Intn(len(years))] = r.Intn(last + 1)
		is, e := land.Agrees(b, years)
		if is != allTrue(b.Memories, years) || e != api.OK {
			t.Fatal(b, years, is, e)
		}
		seen[is]++
	}
	if seen[true] < 100 || seen[false] < 100 {
		t.Error("too few of a kind:", seen)
	}
}

// P2.1 and P2.2: the chapter's examples, and books of which only the first and the last year make the bounds.
func TestYears(t *testing.T) {
	for _, x := range []struct {
		b    api.LandBook
		want []api.Span
	}{
		{chapterBook(), []api.Span{span(0, 985), span(10, 995), span(15, 1000), span(7, 995)}},
		{eventsBook(1), []api.Span{span(0, last)}},
		{eventsBook(7), slices.Repeat([]api.Span{span(0, last)}, 7)},
		{eventsBook(2, memory(0, 1, 3, 5)), []api.Span{span(0, 997), span(3, 1000)}},
		{eventsBook(2, memory(1, 0, -5, -3)), []api.Span{span(0, 997), span(3, 1000)}},
		{eventsBook(2, memory(0, 1, -5, 3)), []api.Span{span(0, 1000), span(0, 1000)}},
		{eventsBook(2, memory(0, 1, last, last)), []api.Span{span(0, 0), span(last, last)}},
		{eventsBook(3, memory(0, 1, 600, 700), memory(1, 2, 300, 500)), []api.Span{span(0, 100), span(600, 700), span(900, 1000)}},
		{eventsBook(3, memory(2, 1, 600, 700), memory(1, 0, 300, 500)), []api.Span{span(900, 1000), span(600, 700), span(0, 100)}},
		{eventsBook(2, memory(0, 1, 3, 9), memory(0, 1, 1, 7), memory(1, 0, -6, 0)), []api.Span{span(0, 997), span(3, 1000)}},
	} {
		spans, e := land.Years(x.b)
		if e != api.OK || !slices.Equal(spans, x.want) {
			t.Errorf("%v: %v %v", x.b.Memories, spans, e)
		}
		var lows []int
		for _, s := range x.want {
			lows = append(lows, s.Low)
		}
		if w, e := land.Witness(x.b); e != api.OK || !slices.Equal(w, lows) {
			t.Errorf("%v: Witness: %v %v", x.b.Memories, w, e)
		}
	}
}

// P2.2: the chapter's examples of After, and events of which nothing is remembered.
func TestAfter(t *testing.T) {
	for _, x := range []struct {
		b        api.LandBook
		from, to int
		want     api.Span
	}{
		{chapterBook(), 0, 1, span(10, 11)},
		{chapterBook(), 1, 2, span(5, 6)},
		{chapterBook(), 0, 2, span(15, 16)},
		{chapterBook(), 2, 3, span(-9, -5)},
		{chapterBook(), 1, 0, span(-11, -10)},
		{chapterBook(), 3, 3, span(0, 0)},
		{eventsBook(1), 0, 0, span(0, 0)},
		{eventsBook(2), 0, 1, span(-last, last)},
		{eventsBook(3, memory(0, 1, 600, 700)), 0, 2, span(-400, last)},
		{eventsBook(3, memory(0, 1, 600, 700)), 2, 1, span(-400, last)},
		{eventsBook(4, memory(0, 1, 600, 700), memory(2, 3, 500, 500)), 0, 3, span(100, last)},
	} {
		if s, e := land.After(x.b, x.from, x.to); e != api.OK || s != x.want {
			t.Errorf("%v %v %v: %v %v", x.b.Memories, x.from, x.to, s, e)
		}
	}
	for _, n := range []int{-1, 4, math.MinInt, math.MaxInt} {
		for _, pair := range [][2]int{{n, 0}, {0, n}, {n, n}} {
			if s, e := land.After(chapterBook(), pair[0], pair[1]); e != api.ErrArg || s != (api.Span{}) {
				t.Error(pair, s, e)
			}
		}
	}
}

// P2.1 and P2.2: the earliest truth, and the bounds, of books at random: each bound is reached, and nothing beyond it is.
func TestYearsRandom(t *testing.T) {
	r := rand.New(rand.NewSource(23))
	seen := map[bool]int{}
	for range 600 {
		b := randomBook(r, 3)
		want, ok := plainEarliest(len(b.Events), b.Memories)
		w, e := land.Witness(b)
		if ok != (e == api.OK) || !ok && e != api.ErrRule || !slices.Equal(w, want) {
			t.Fatal(b, w, e, want)
		}
		seen[ok]++
		spans, e2 := land.Years(b)
		if e2 != e || ok && len(spans) != len(b.Events) {
			t.Fatal(b, spans, e2)
		}
		for event, s := range spans {
			for _, year := range []int{s.Low - 1, s.Low, s.High, s.High + 1} {
				if canBeIn(b, event, year) != (s.Low <= year && year <= s.High) {
					t.Fatal(b, event, s, year)
				}
			}
		}
		for from := range b.Events {
			for to := range b.Events {
				s, e3 := land.After(b, from, to)
				if e3 != e || !ok && s != (api.Span{}) {
					t.Fatal(b, from, to, s, e3)
				}
				for _, d := range []int{s.Low - 1, s.Low, s.High, s.High + 1} {
					if ok && canBe(b, from, to, d) != (s.Low <= d && d <= s.High) {
						t.Fatal(b, from, to, s, d)
					}
				}
			}
		}
	}
	if seen[true] < 100 || seen[false] < 100 {
		t.Error("too few of a kind:", seen)
	}
}

// P2.1 and P2.2: whatever is true, years and differences lie within the bounds, and no event is earlier than in the earliest truth.
func TestTruthsWithinBounds(t *testing.T) {
	r := rand.New(rand.NewSource(24))
	for range 400 {
		b := randomBook(r, 0)
		spans, e := land.Years(b)
		w, e2 := land.Witness(b)
		if e != api.OK || e2 != api.OK || !allTrue(b.Memories, w) {
			t.Fatal(b, e, e2, w)
		}
		for range 5 {
			years := randomTruth(r, b)
			for event, year := range years {
				if year < w[event] || year < spans[event].Low || year > spans[event].High {
					t.Fatal(b, years, w, spans)
				}
				for other, year2 := range years {
					if s, _ := land.After(b, other, event); year-year2 < s.Low || year-year2 > s.High {
						t.Fatal(b, years, other, event, s)
					}
				}
			}
		}
	}
}

// P2.1 and P2.2: two events, with all their years gone through.
func TestAllYears(t *testing.T) {
	r := rand.New(rand.NewSource(25))
	for range 12 {
		b := eventsBook(2)
		for range 1 + r.Intn(3) {
			low := r.Intn(2*last+1) - last
			b.Memories = append(b.Memories, memory(r.Intn(2), 0, low, min(last, low+r.Intn(1500))))
			m := &b.Memories[len(b.Memories)-1]
			m.To = 1 - m.From
		}
		var bounds []api.Span
		var after api.Span
		for k := range (last + 1) * (last + 1) {
			years := []int{k / (last + 1), k % (last + 1)}
			if !allTrue(b.Memories, years) {
				continue
			}
			d := years[1] - years[0]
			if bounds == nil {
				bounds, after = []api.Span{span(years[0], years[0]), span(years[1], years[1])}, span(d, d)
			}
			for event, s := range bounds {
				bounds[event] = span(min(s.Low, years[event]), max(s.High, years[event]))
			}
			after = span(min(after.Low, d), max(after.High, d))
		}
		spans, _ := land.Years(b)
		s, e := land.After(b, 0, 1)
		if !slices.Equal(spans, bounds) || s != after || (e == api.OK) != (bounds != nil) {
			t.Fatal(b, spans, bounds, s, after, e)
		}
	}
}
