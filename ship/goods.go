package ship

// never stands for the day of a kind that is not wanting.
const never = -1

// goods are those of one kind, in truth, while ships come.
type goods struct {
	stock   int
	use     int    // how much of them is used on a day
	brought int    // how much of them each ship brings
	ships   []bool // on which days a ship comes
}

// follow returns what is left after all days, and tells each day on which goods are wanting.
func (g goods) follow(wants func(day int)) int {
	left := g.stock
	for day, comes := range g.ships {
		if comes {
			left += g.brought
		}
		if left < g.use {
			wants(day)
		}
		left -= min(left, g.use)
	}
	return left
}

func (g goods) left() int { return g.follow(func(int) {}) }

// wanting is a day on which goods are wanting; the search for the first one panics with it.
type wanting int

// firstDay returns the first day on which goods are wanting.
func (g goods) firstDay() (day int) {
	defer func() {
		if w, is := recover().(wanting); is {
			day = int(w)
		}
	}()
	g.follow(func(day int) { panic(wanting(day)) })
	return never
}

// suffice reports whether goods are not wanting on any day.
func (g goods) suffice() bool { return g.firstDay() == never }
