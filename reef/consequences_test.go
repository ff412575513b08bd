package reef_test

import (
	"math/rand"
	"slices"
	"testing"

	"motu/api"
	"motu/reef"
)

// P3.6: a place that is closed in one more season never leaves fewer fish anywhere, at either end; so that no other place gets short.
func TestClosedMore(t *testing.T) {
	r := rand.New(rand.NewSource(43))
	more := 0
	for range 5000 {
		x := anyReef(r, 40)
		plan := randomPlan(r, x)
		season, place := r.Intn(x.Seasons), r.Intn(len(x.Places))
		plan[season] &^= 1 << place
		closed := slices.Clone(plan)
		closed[season] |= 1 << place
		before, after := stocks(t, x, plan), stocks(t, x, closed)
		for s := range before {
			for k := range before[s] {
				if after[s][k].Low < before[s][k].Low || after[s][k].High < before[s][k].High {
					t.Fatal(x, plan, closed, before, after)
				}
			}
		}
		if !sameSpans(before, after) {
			more++
		}
		if !sameSpans(before[:season], after[:season]) {
			t.Fatal("closed in a later season", x, plan, closed, before, after)
		}
		_, _, e := reef.Short(x, plan)
		if _, _, e2 := reef.Short(x, closed); e == api.ErrNone && e2 != e {
			t.Fatal(x, plan, closed, e2)
		}
	}
	if more < 1000 {
		t.Error("closing mostly changes nothing:", more)
	}
}

func cut(r *rand.Rand, s api.Span) api.Span {
	low := within(r, s)
	return span(low, within(r, span(low, s.High)))
}

// knownBetter returns a reef with shorter spans, of which divers miss fewer fish.
func knownBetter(r *rand.Rand, x api.Reef) api.Reef {
	x = cloneReef(x)
	x.Miss = r.Intn(x.Miss + 1)
	for k := range x.Places {
		p := &x.Places[k]
		p.Grow = cut(r, p.Grow)
		if open, shut := cut(r, p.Open), cut(r, p.Shut); shut.Low <= open.Low && shut.High <= open.High {
			p.Open, p.Shut = open, shut
		}
	}
	return x
}

// P3.6: a reef that is known better never has wider stocks, nor a dearer best plan.
func TestKnownBetter(t *testing.T) {
	r := rand.New(rand.NewSource(44))
	for range 3000 {
		x := randomReef(r, 1+r.Intn(3), 1+r.Intn(3), 40)
		y := knownBetter(r, x)
		plan := randomPlan(r, x)
		wide, narrow := stocks(t, x, plan), stocks(t, y, plan)
		for s := range wide {
			for k := range wide[s] {
				if narrow[s][k].Low < wide[s][k].Low || narrow[s][k].High > wide[s][k].High {
					t.Fatal(x, y, plan, wide, narrow)
				}
			}
		}
		_, cost, e := reef.Best(x)
		if _, less, e2 := reef.Best(y); e == api.OK && (e2 != e || less > cost) {
			t.Fatal(x, y, cost, less, e2)
		}
	}
}
