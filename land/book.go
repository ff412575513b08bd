package land

import "motu/api"

// nobody stands for a mother who is not known, and for whoever has not adopted anybody.
const nobody = -1

func isIn(n, low, high int) bool { return low <= n && n <= high }

func isPerson(b api.LandBook, person int) bool { return isIn(person, 0, len(b.People)-1) }

func isEvent(b api.LandBook, event int) bool { return isIn(event, 0, len(b.Events)-1) }

func isStrip(strip int) bool { return isIn(strip, 0, api.LandStrips-1) }

func isBook(b api.LandBook) bool {
	return isIn(len(b.People), 1, api.LandPeople) && isIn(len(b.Events), 1, api.LandEvents) && len(b.Memories) <= api.LandMemories &&
		arePeople(b) && areEvents(b) && areMemories(b)
}

func arePeople(b api.LandBook) bool {
	for person, p := range b.People {
		if !isIn(p.Mother, nobody, person-1) || !isIn(p.Adopted, nobody, person-1) {
			return false
		}
	}
	return true
}

func areEvents(b api.LandBook) bool {
	for _, event := range b.Events {
		if !isStrip(event.Strip) || !isPerson(b, event.Holder) {
			return false
		}
	}
	return true
}

func areMemories(b api.LandBook) bool {
	for _, m := range b.Memories {
		if !isEvent(b, m.From) || !isEvent(b, m.To) || m.From == m.To {
			return false
		}
		if m.Years.Low < -api.LandYears || m.Years.Low > m.Years.High || m.Years.High > api.LandYears {
			return false
		}
	}
	return true
}

func areYears(b api.LandBook, years []int) bool {
	if len(years) != len(b.Events) {
		return false
	}
	for _, year := range years {
		if !isIn(year, 0, api.LandYears) {
			return false
		}
	}
	return true
}

func areTrue(memories []api.LandMemory, years []int) bool {
	for _, m := range memories {
		if !isIn(years[m.To]-years[m.From], m.Years.Low, m.Years.High) {
			return false
		}
	}
	return true
}
