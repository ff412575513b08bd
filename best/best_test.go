package best_test

import (
	"slices"
	"testing"

	"motu/api"
	"motu/best"
	"motu/set"
)

func TestOf(t *testing.T) {
	shorter := func(a, b string) bool { return len(a) < len(b) }
	for _, x := range []struct {
		words []string
		want  string
		found bool
	}{
		{nil, "", false}, {[]string{"atoll"}, "atoll", true}, {[]string{"reef", "sea", "sand", "sun"}, "sea", true}, {[]string{"", "a"}, "", true},
	} {
		if word, found := best.Of(slices.Values(x.words), shorter); word != x.want || found != x.found {
			t.Error(x, word, found)
		}
	}
}

func TestCheapest(t *testing.T) {
	costs := []int{3, 2, 5, 1}
	for _, x := range []struct {
		name     string
		suffices func(set.Set) bool
		numbers  []int
		cost     int
		e        api.Errno
	}{
		{"any", func(set.Set) bool { return true }, nil, 0, api.OK},
		{"none", func(set.Set) bool { return false }, nil, 0, api.ErrNone},
		{"one of them", func(s set.Set) bool { return s != 0 }, []int{3}, 1, api.OK},
		{"all of them", func(s set.Set) bool { return s == 15 }, []int{0, 1, 2, 3}, 11, api.OK},
		{"fewer for as much", func(s set.Set) bool { return s == set.Of(1, 3) || s == set.Of(0) }, []int{0}, 3, api.OK},
		{"more for less", func(s set.Set) bool { return s == set.Of(1, 3) || s == set.Of(2) }, []int{1, 3}, 3, api.OK},
		{"the first one", func(s set.Set) bool { return s == set.Of(0, 1) || s == set.Of(2) || s == set.Of(0, 2) }, []int{2}, 5, api.OK},
		{"the first one of two", func(s set.Set) bool { return s == set.Of(1, 2, 3) || s == set.Of(0, 2) }, []int{0, 2}, 8, api.OK},
	} {
		if numbers, cost, e := best.Cheapest(costs, x.suffices); !slices.Equal(numbers, x.numbers) || cost != x.cost || e != x.e {
			t.Errorf("%s: %v %v %v", x.name, numbers, cost, e)
		}
	}
	// as numbers, the bits of 0 and 3 are more than those of 1 and 2
	same := func(s set.Set) bool { return s == set.Of(0, 3) || s == set.Of(1, 2) }
	if numbers, cost, e := best.Cheapest([]int{1, 1, 1, 1}, same); !slices.Equal(numbers, []int{0, 3}) || cost != 2 || e != api.OK {
		t.Error(numbers, cost, e)
	}
	if numbers, cost, e := best.Cheapest(nil, func(s set.Set) bool { return s == 0 }); len(numbers) != 0 || cost != 0 || e != api.OK {
		t.Error(numbers, cost, e)
	}
}
