package lens

import (
	"math"

	"motu/api"
)

// known follows both extremes of each drought: every other truth lies between them.
func known(i api.LensIslet, tanks int) []api.LensKnown {
	nothing := api.Span{Low: math.MaxInt, High: math.MinInt}
	bounds := make([]api.LensKnown, len(i.Months))
	for m := range bounds {
		bounds[m] = api.LensKnown{Tanks: nothing, Lens: nothing, Lack: nothing}
	}
	for dry := range droughts(i) {
		for _, t := range [2]api.LensTruth{scarcest(i, dry), richest(i, dry)} {
			ends, _ := follow(i, tanks, t)
			for m, end := range ends {
				bounds[m] = withEnd(bounds[m], end)
			}
		}
	}
	return bounds
}

func withEnd(k api.LensKnown, end api.LensSeen) api.LensKnown {
	return api.LensKnown{
		Tanks: widened(k.Tanks, end, func(s api.LensSeen) int { return s.Tanks }),
		Lens:  widened(k.Lens, end, func(s api.LensSeen) int { return s.Lens }),
		Lack:  widened(k.Lack, end, func(s api.LensSeen) int { return s.Lack }),
	}
}

// widened returns bounds between which a number of an end lies, too.
func widened[E any](s api.Span, end E, number func(E) int) api.Span {
	n := number(end)
	return api.Span{Low: min(s.Low, n), High: max(s.High, n)}
}
