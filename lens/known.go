package lens

import (
	"motu/api"
	"motu/bounds"
)

// known follows both extremes of each drought: every other truth lies between them.
func known(i api.LensIslet, tanks int) []api.LensKnown {
	all := make([]api.LensKnown, len(i.Months))
	for m := range all {
		all[m] = api.LensKnown{Tanks: bounds.None(), Lens: bounds.None(), Lack: bounds.None()}
	}
	for dry := range droughts(i) {
		for _, t := range [2]api.LensTruth{scarcest(i, dry), richest(i, dry)} {
			ends, _ := follow(i, tanks, t)
			for m, end := range ends {
				all[m] = withEnd(all[m], end)
			}
		}
	}
	return all
}

func withEnd(k api.LensKnown, end api.LensSeen) api.LensKnown {
	return api.LensKnown{
		Tanks: widened(k.Tanks, end, func(s api.LensSeen) int { return s.Tanks }),
		Lens:  widened(k.Lens, end, func(s api.LensSeen) int { return s.Lens }),
		Lack:  widened(k.Lack, end, func(s api.LensSeen) int { return s.Lack }),
	}
}

// widened returns bounds between which a number of an end lies, too.
func widened[E any](s api.Span, end E, number func(E) int) api.Span {
	return bounds.With(s, number(end))
}
