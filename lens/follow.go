package lens

import "motu/api"

// followed is an islet whose water is followed in some truth.
type followed struct {
	api.LensIslet
	truth  api.LensTruth
	full   int // what all tanks hold together
	month  int
	tanks  int
	lens   int
	lack   int
	ledger api.LensLedger
}

// follow returns the ends of all months, and the ledger.
func follow(i api.LensIslet, tanks int, t api.LensTruth) ([]api.LensSeen, api.LensLedger) {
	full := i.Size * tanks
	f := followed{LensIslet: i, truth: t, full: full, tanks: full, lens: t.Start}
	f.ledger.Start = f.tanks + f.lens
	steps := [3]func(){f.rain, f.leak, f.supply}
	ends := make([]api.LensSeen, len(f.Months))
	for month := range len(f.Months) {
		f.month = month
		for _, step := range steps {
			step()
		}
		ends[month] = api.LensSeen{Tanks: f.tanks, Lens: f.lens, Lack: f.lack}
	}
	f.ledger.Kept = f.tanks + f.lens
	return ends, f.ledger
}

func (f *followed) rain() {
	rain := f.truth.Rains[f.month]
	f.tanks = f.fill(f.tanks, scaled(1000, f.Roof, rain), f.full)
	f.lens = f.fill(f.lens, scaled(1000000, f.Sand, rain, f.truth.Soak), f.Cap)
}

// scaled returns a quotient of a product, which may need more bits than an int has everywhere.
func scaled(divisor int64, factors ...int) int {
	product := int64(1)
	for _, n := range factors {
		product *= int64(n)
	}
	return int(product / divisor)
}

// fill returns what there is after some rain; what is more than most goes to the sea.
func (f *followed) fill(water, rain, most int) int {
	sea := max(0, water+rain-most)
	f.ledger.Rain += rain
	f.ledger.Sea += sea
	return water + rain - sea
}

func (f *followed) leak() {
	leak := scaled(1000, f.lens, f.truth.Leak)
	f.lens -= leak
	f.ledger.Leak += leak
}

func (f *followed) supply() {
	need := f.truth.Needs[f.month]
	taken := min(need, f.tanks)
	pumped := min(need-taken, f.Pump, max(0, f.lens-f.Keep))
	f.tanks -= taken
	f.lens -= pumped
	f.lack = need - taken - pumped
	f.ledger.Used += taken + pumped
}
