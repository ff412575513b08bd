package bounds_test

import (
	"math"
	"testing"

	"motu/api"
	"motu/bounds"
)

func TestIn(t *testing.T) {
	for _, x := range []struct {
		n, low, high int
		want         bool
	}{
		{3, 3, 5, true}, {4, 3, 5, true}, {5, 3, 5, true}, {2, 3, 5, false}, {6, 3, 5, false}, {3, 3, 3, true}, {4, 5, 3, false},
		{-1, -1, 0, true}, {-2, -1, 0, false}, {math.MinInt, 0, 9, false}, {math.MaxInt, 0, 9, false}, {math.MaxInt, math.MinInt, math.MaxInt, true},
	} {
		if is := bounds.In(x.n, x.low, x.high); is != x.want {
			t.Error(x, is)
		}
		if is := bounds.InSpan(x.n, api.Span{Low: x.low, High: x.high}); is != x.want {
			t.Error("span", x, is)
		}
	}
}

func TestSpans(t *testing.T) {
	for _, x := range []struct {
		low, high, most int
		want            bool
	}{
		{0, 0, 0, true}, {0, 9, 9, true}, {9, 9, 9, true}, {2, 5, 9, true}, {-1, 5, 9, false}, {-2, -1, 9, false}, {5, 4, 9, false},
		{0, 10, 9, false}, {10, 10, 9, false}, {0, 0, -1, false}, {math.MinInt, math.MaxInt, 9, false}, {math.MaxInt, math.MinInt, 9, false},
	} {
		s := api.Span{Low: x.low, High: x.high}
		if is := bounds.IsSpan(s, x.most); is != x.want {
			t.Error(x, is)
		}
		if bounds.Low(s) != x.low || bounds.High(s) != x.high {
			t.Error(s)
		}
	}
}

func TestIsWithin(t *testing.T) {
	for _, x := range []struct {
		low, high int
		want      bool
	}{
		{-3, 5, true}, {-3, -3, true}, {5, 5, true}, {0, 0, true}, {-1, 2, true},
		{-4, 5, false}, {-3, 6, false}, {1, 0, false}, {5, -3, false}, {-5, -4, false}, {6, 7, false},
		{math.MinInt, 0, false}, {0, math.MaxInt, false}, {math.MaxInt, math.MinInt, false},
	} {
		if is := bounds.IsWithin(api.Span{Low: x.low, High: x.high}, -3, 5); is != x.want {
			t.Error(x, is)
		}
	}
}

func TestNumbers(t *testing.T) {
	for _, x := range []struct {
		list   []int
		things int
		want   bool
	}{
		{nil, 0, true}, {[]int{}, 3, true}, {nil, -1, true}, {[]int{0}, 1, true}, {[]int{2}, 3, true}, {[]int{0, 1, 2}, 3, true}, {[]int{0, 2}, 3, true},
		{[]int{0}, 0, false}, {[]int{3}, 3, false}, {[]int{-1}, 3, false}, {[]int{1, 1}, 3, false}, {[]int{1, 0}, 3, false}, {[]int{0, 1, 2, 3}, 3, false},
		{[]int{0, 2, 1}, 3, false}, {[]int{-1, 0}, 3, false}, {[]int{math.MinInt}, 3, false}, {[]int{math.MaxInt}, 3, false}, {[]int{0, math.MaxInt}, 3, false},
	} {
		if is := bounds.AreNumbers(x.list, x.things); is != x.want {
			t.Error(x, is)
		}
	}
}

func TestAllIn(t *testing.T) {
	for _, x := range []struct {
		list []int
		want bool
	}{
		{nil, true}, {[]int{}, true}, {[]int{3}, true}, {[]int{5, 3, 4, 3}, true},
		{[]int{2}, false}, {[]int{6}, false}, {[]int{2, 4}, false}, {[]int{4, 4, 6}, false}, {[]int{math.MinInt, 4}, false}, {[]int{4, math.MaxInt}, false},
	} {
		if is := bounds.AllIn(x.list, 3, 5); is != x.want {
			t.Error(x, is)
		}
	}
}

func TestInSpans(t *testing.T) {
	spans := []api.Span{{Low: 3, High: 5}, {Low: -1, High: -1}}
	for _, x := range []struct {
		numbers []int
		want    bool
	}{
		{[]int{3, -1}, true}, {[]int{5, -1}, true},
		{[]int{2, -1}, false}, {[]int{6, -1}, false}, {[]int{4, 0}, false}, {[]int{4, -2}, false}, {[]int{-1, 3}, false},
		{nil, false}, {[]int{4}, false}, {[]int{4, -1, 0}, false},
	} {
		if is := bounds.InSpans(x.numbers, spans); is != x.want {
			t.Error(x, is)
		}
	}
	if !bounds.InSpans(nil, []api.Span{}) || bounds.InSpans([]int{0}, nil) {
		t.Error("no spans")
	}
}

func TestAreSpans(t *testing.T) {
	good, also, tall, none := api.Span{Low: 0, High: 9}, api.Span{Low: 4, High: 4}, api.Span{Low: 4, High: 10}, api.Span{Low: 5, High: 4}
	for _, x := range []struct {
		spans []api.Span
		want  bool
	}{
		{nil, true}, {[]api.Span{good}, true}, {[]api.Span{good, also, good}, true},
		{[]api.Span{tall}, false}, {[]api.Span{none, good}, false}, {[]api.Span{good, also, tall}, false},
	} {
		if is := bounds.AreSpans(x.spans, 9); is != x.want {
			t.Error(x, is)
		}
	}
}

func TestWith(t *testing.T) {
	s := bounds.None()
	for _, n := range []int{math.MinInt, -1, 0, 1, math.MaxInt} {
		if bounds.InSpan(n, s) || bounds.With(s, n) != (api.Span{Low: n, High: n}) {
			t.Error(n, s)
		}
	}
	for _, x := range []struct {
		n    int
		want api.Span
	}{
		{4, api.Span{Low: 4, High: 4}}, {6, api.Span{Low: 4, High: 6}}, {5, api.Span{Low: 4, High: 6}}, {-2, api.Span{Low: -2, High: 6}}, {6, api.Span{Low: -2, High: 6}},
	} {
		s = bounds.With(s, x.n)
		if s != x.want {
			t.Error(x, s)
		}
	}
}
