package queue_test

import (
	"slices"
	"testing"

	"motu/queue"
)

func TestQueue(t *testing.T) {
	var q queue.Queue[int]
	if all := slices.Collect(q.All()); len(all) != 0 {
		t.Error(all)
	}
	q.Add(3)
	q.Add(1)
	var got []int
	for x := range q.All() {
		got = append(got, x)
		if x < 5 {
			q.Add(x + 3)
		}
	}
	if want := []int{3, 1, 6, 4, 7}; !slices.Equal(got, want) {
		t.Error(got)
	}
}

func TestQueueIsLeft(t *testing.T) {
	var q queue.Queue[string]
	for _, x := range []string{"a", "b", "c"} {
		q.Add(x)
	}
	for range q.All() {
		break
	}
	if rest := slices.Collect(q.All()); !slices.Equal(rest, []string{"b", "c"}) {
		t.Error(rest)
	}
}
