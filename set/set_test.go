package set_test

import (
	"slices"
	"testing"

	"motu/set"
)

func TestNumbers(t *testing.T) {
	for _, x := range []struct {
		numbers []int
		want    set.Set
	}{
		{nil, 0}, {[]int{0}, 1}, {[]int{1}, 2}, {[]int{2}, 4}, {[]int{0, 1, 2}, 7}, {[]int{3, 9}, 520}, {[]int{30}, 1 << 30},
	} {
		s := set.Of(x.numbers...)
		if s != x.want || !slices.Equal(slices.Collect(s.All()), x.numbers) {
			t.Error(x, s)
		}
		for n := range 40 {
			if s.Has(n) != slices.Contains(x.numbers, n) {
				t.Error(x, n)
			}
		}
	}
	if s := set.Of(2, 0, 2); s != 5 || s.With(1) != 7 || s.With(2) != 5 || s != 5 {
		t.Error(s)
	}
}

func TestAllIsLeft(t *testing.T) {
	var got []int
	for n := range set.Of(1, 3, 5).All() {
		if n == 5 {
			break
		}
		got = append(got, n)
	}
	if !slices.Equal(got, []int{1, 3}) {
		t.Error(got)
	}
}

func TestPick(t *testing.T) {
	words := []string{"a", "b", "c", "d"}
	for _, x := range []struct {
		numbers []int
		want    []string
	}{
		{nil, nil}, {[]int{0}, []string{"a"}}, {[]int{1, 3}, []string{"b", "d"}}, {[]int{0, 1, 2, 3}, words},
	} {
		if picked := set.Pick(set.Of(x.numbers...), words); !slices.Equal(picked, x.want) {
			t.Error(x, picked)
		}
	}
	set.Pick(set.Of(0), words)[0] = "z"
	if words[0] != "a" {
		t.Error(words)
	}
}
