package lens

import (
	"iter"

	"motu/api"
	"motu/bounds"
)

func isDrought(i api.LensIslet, dry []bool) bool {
	all, row := 0, 0
	for _, d := range dry {
		if !d {
			row = 0
			continue
		}
		all++
		row++
		if all > i.Most || row > i.Row {
			return false
		}
	}
	return true
}

// droughts yields the droughts of an islet in their order: the first month is the highest bit, so that counting up is that order. Each of them is a list of its own.
func droughts(i api.LensIslet) iter.Seq[[]bool] {
	return func(yield func([]bool) bool) {
		months := len(i.Months)
		for bits := range 1 << months {
			dry := make([]bool, months)
			for m := range months {
				dry[m] = bits>>(months-1-m)&1 == 1
			}
			if isDrought(i, dry) && !yield(dry) {
				return
			}
		}
	}
}

// scarcest returns the truth of a drought in which water is scarcest at the end of every month. There is one, as more water in a month never makes less later.
func scarcest(i api.LensIslet, dry []bool) api.LensTruth {
	return extreme(i, dry, bounds.Low, bounds.High)
}

// richest returns the truth of a drought in which there is most water at the end of every month.
func richest(i api.LensIslet, dry []bool) api.LensTruth {
	return extreme(i, dry, bounds.High, bounds.Low)
}

func extreme(i api.LensIslet, dry []bool, comes, goes func(api.Span) int) api.LensTruth {
	t := api.LensTruth{Start: comes(i.Start), Soak: comes(i.Soak), Leak: goes(i.Leak), Dry: dry}
	for m, month := range i.Months {
		t.Rains = append(t.Rains, comes(rainOf(month, dry[m])))
		t.Needs = append(t.Needs, goes(month.Need))
	}
	return t
}
