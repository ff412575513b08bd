package lens

import "motu/api"

// firstFault follows only the scarcest truth of each drought: what can go wrong in a month of the drought at all does so in that truth.
func firstFault(i api.LensIslet, tanks int) api.LensFault {
	fault := api.LensFault{Rule: api.LensFine}
search:
	for dry := range droughts(i) {
		ends, _ := follow(i, tanks, scarcest(i, dry))
		for month, end := range ends {
			rule, well := wrong(i, end)
			if rule != api.LensFine {
				fault = api.LensFault{Drought: dry, Month: month, Rule: rule, Well: well}
				break search
			}
		}
	}
	return fault
}

// wrong returns what is wrong first at the end of a month, and of which well.
func wrong(i api.LensIslet, end api.LensSeen) (api.LensRule, int) {
	if end.Lack > 0 {
		return api.LensLacks, 0
	}
	for w, least := range i.Wells {
		if end.Lens < least {
			return api.LensSalts, w
		}
	}
	return api.LensFine, 0
}

// fewest halves the numbers of tanks again and again, as more tanks never make anything go wrong. The number that is left has mostly been looked at by then; the map has it.
func fewest(i api.LensIslet) (int, bool) {
	found := map[int]bool{}
	suffice := func(tanks int) bool {
		fine, ok := found[tanks]
		if !ok {
			fine = firstFault(i, tanks).Rule == api.LensFine
			found[tanks] = fine
		}
		return fine
	}
	least, most := 0, api.LensTanks
	for least < most {
		middle := (least + most) / 2
		if suffice(middle) {
			most = middle
		} else {
			least = middle + 1
		}
	}
	return least, suffice(least)
}
