package first_test

import (
	"iter"
	"slices"
	"testing"

	"motu/first"
)

func TestOf(t *testing.T) {
	all := []int{3, 8, 5, 8}
	for _, x := range []struct {
		least, want int
		found       bool
	}{
		{0, 3, true}, {4, 8, true}, {8, 8, true}, {9, 0, false},
	} {
		n, found := first.Of(slices.Values(all), func(n int) bool { return n >= x.least })
		if n != x.want || found != x.found {
			t.Error(x, n, found)
		}
	}
	looked := 0
	first.Of(slices.Values(all), func(n int) bool { looked++; return n == 8 })
	if looked != 2 {
		t.Error(looked)
	}
	if s, found := first.Of(slices.Values([]string(nil)), func(string) bool { return true }); s != "" || found {
		t.Error(s, found)
	}
}

func TestNumber(t *testing.T) {
	for most := range 40 {
		for least := range most + 2 {
			if n := first.Number(most, func(n int) bool { return n >= least }); n != least {
				t.Error(most, least, n)
			}
		}
	}
	asked := 0
	if n := first.Number(1000, func(n int) bool { asked++; return n >= 617 }); n != 617 || asked > 10 {
		t.Error(n, asked)
	}
}

// upwards yields the numbers up to most that follow the last one of a list by 2 or 3.
func upwards(most int) func([]int) iter.Seq[int] {
	return func(list []int) iter.Seq[int] {
		last := -2
		if len(list) > 0 {
			last = list[len(list)-1]
		}
		return func(yield func(int) bool) {
			for n := last + 2; n <= min(last+3, most); n++ {
				if !yield(n) {
					return
				}
			}
		}
	}
}

func TestList(t *testing.T) {
	for _, x := range []struct {
		length, most int
		want         []int
		found        bool
	}{
		{0, -1, nil, true}, {1, -1, nil, false}, {1, 0, []int{0}, true}, {2, 1, nil, false}, {2, 2, []int{0, 2}, true}, {4, 9, []int{0, 2, 4, 6}, true}, {5, 7, nil, false},
	} {
		if list, found := first.List(x.length, upwards(x.most)); found != x.found || !slices.Equal(list, x.want) {
			t.Error(x, list, found)
		}
	}
}

// The first items can turn out to lead nowhere.
func TestListGoesBack(t *testing.T) {
	after := map[int][]int{0: {1, 2, 3}, 1: {4}, 2: {4, 5}, 3: {6}, 5: {7}, 6: {7}}
	tried := 0
	next := func(list []int) iter.Seq[int] {
		tried++
		if len(list) == 0 {
			return slices.Values([]int{0})
		}
		return slices.Values(after[list[len(list)-1]])
	}
	if list, found := first.List(4, next); !found || !slices.Equal(list, []int{0, 2, 5, 7}) || tried != 6 {
		t.Error(list, found, tried)
	}
	if list, found := first.List(5, next); found || len(list) != 0 {
		t.Error(list, found)
	}
}

// There are 2 to the power of 60 lists, but few items.
func TestListIsSoonFound(t *testing.T) {
	next := func(list []int) iter.Seq[int] {
		if len(list) == 60 {
			return slices.Values([]int(nil))
		}
		return slices.Values([]int{0, 1})
	}
	if list, found := first.List(61, next); found || len(list) != 0 {
		t.Error(list, found)
	}
	if list, found := first.List(60, next); !found || !slices.Equal(list, make([]int, 60)) {
		t.Error(list, found)
	}
}
