package lists_test

import (
	"slices"
	"strconv"
	"testing"

	"motu/lists"
)

func TestEach(t *testing.T) {
	list := []int{3, -1, 40}
	if words := lists.Each(list, strconv.Itoa); !slices.Equal(words, []string{"3", "-1", "40"}) {
		t.Error(words)
	}
	same := lists.Each(list, func(n int) int { return n })
	same[0] = 7
	if !slices.Equal(list, []int{3, -1, 40}) {
		t.Error(list)
	}
	if words := lists.Each(nil, strconv.Itoa); len(words) != 0 {
		t.Error(words)
	}
}
