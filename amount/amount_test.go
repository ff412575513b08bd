package amount_test

import (
	"testing"

	"motu/amount"
)

func TestPart(t *testing.T) {
	for _, x := range []struct{ amount, rate, want int }{
		{0, 1000, 0}, {1000, 0, 0}, {59, 1000, 59}, {59, 2000, 118}, {1999, 1, 1}, {2000, 1, 2}, {59, 50, 2}, {60, 50, 3}, {999, 1, 0},
		{127000000, 1000, 127000000}, {1000000, 999, 999000},
	} {
		if n := amount.Part(x.amount, x.rate); n != x.want {
			t.Error(x, n)
		}
	}
}

func TestSum(t *testing.T) {
	if n := amount.Sum(); n != 0 {
		t.Error(n)
	}
	list := []int{3, -1, 40}
	if n := amount.Sum(list...); n != 42 || list[0] != 3 || list[1] != -1 || list[2] != 40 {
		t.Error(n, list)
	}
}
