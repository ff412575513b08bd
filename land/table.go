package land

import "motu/api"

// A table has a spot for each event, and the last one for the year 0.
const (
	spots = api.LandEvents + 1
	start = api.LandEvents
)

// table tells how far events are apart at most: table[a][b] is how many years b is after a at most. It is close if none of its numbers follows from others to be less.
type table [spots][spots]int

// untold returns the table of events of which nothing is remembered.
func untold() table {
	var t table
	for a := range t {
		for b := range t {
			if a != b && b != start {
				t[a][b] = api.LandYears
			}
		}
	}
	return t
}

// with returns a close table with a memory more, close again. If the memories do not agree, it never gets close, but so many rounds are more than enough to find it out: each round looks twice as many steps ahead as the one before, and a way from a spot around to itself has at most as many steps as there are spots.
func (t table) with(m api.LandMemory) table {
	t[m.From][m.To] = min(t[m.From][m.To], m.Years.High)
	t[m.To][m.From] = min(t[m.To][m.From], -m.Years.Low)
closing:
	for range spots {
		closer := t.closer()
		if closer == t {
			break closing
		}
		t = closer
	}
	return t
}

// closer returns how far events are apart at most by way of any spot.
func (t table) closer() table {
	closer := t
	for a := range t {
		for b := range t {
			for via := range t {
				closer[a][b] = min(closer[a][b], t[a][via]+t[via][b])
			}
		}
	}
	return closer
}

// agrees reports whether there is a truth: there is none if an event would be before itself.
func (t table) agrees() bool {
	for a := range t {
		if t[a][a] < 0 {
			return false
		}
	}
	return true
}

func (t table) after(from, to int) api.Span { return api.Span{Low: -t[to][from], High: t[from][to]} }

func (t table) year(event int) api.Span { return t.after(start, event) }
