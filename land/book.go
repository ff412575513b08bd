package land

import (
	"motu/api"
	"motu/bounds"
)

// nobody stands for a mother who is not known, and for whoever has not adopted anybody.
const nobody = -1

func isPerson(b api.LandBook, person int) bool { return bounds.In(person, 0, len(b.People)-1) }

func isEvent(b api.LandBook, event int) bool { return bounds.In(event, 0, len(b.Events)-1) }

func isStrip(strip int) bool { return bounds.In(strip, 0, api.LandStrips-1) }

func isBook(b api.LandBook) bool {
	return bounds.In(len(b.People), 1, api.LandPeople) && bounds.In(len(b.Events), 1, api.LandEvents) && len(b.Memories) <= api.LandMemories &&
		arePeople(b) && areEvents(b) && areMemories(b)
}

func arePeople(b api.LandBook) bool {
	for person, p := range b.People {
		if !bounds.In(p.Mother, nobody, person-1) || !bounds.In(p.Adopted, nobody, person-1) {
			return false
		}
	}
	return true
}

func areEvents(b api.LandBook) bool {
	for _, event := range b.Events {
		if !isStrip(event.Strip) || !isPerson(b, event.Holder) {
			return false
		}
	}
	return true
}

func areMemories(b api.LandBook) bool {
	for _, m := range b.Memories {
		if !isEvent(b, m.From) || !isEvent(b, m.To) || m.From == m.To || !bounds.IsWithin(m.Years, -api.LandYears, api.LandYears) {
			return false
		}
	}
	return true
}

func areYears(b api.LandBook, years []int) bool {
	return len(years) == len(b.Events) && bounds.AllIn(years, 0, api.LandYears)
}

func areTrue(memories []api.LandMemory, years []int) bool {
	for _, m := range memories {
		if !bounds.InSpan(years[m.To]-years[m.From], m.Years) {
			return false
		}
	}
	return true
}
