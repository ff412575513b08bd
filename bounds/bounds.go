// Package bounds tells whether numbers, lists of them, and spans lie where they may, which layers ask of their arguments in the same way; and it makes spans of numbers.
package bounds

import (
	"math"

	"motu/api"
)

// In reports whether a number is one from low to high.
func In(n, low, high int) bool { return low <= n && n <= high }

// AllIn reports whether all numbers of a list are ones from low to high.
func AllIn(list []int, low, high int) bool {
	for _, n := range list {
		if !In(n, low, high) {
			return false
		}
	}
	return true
}

// InSpan reports whether a number is one of a span.
func InSpan(n int, s api.Span) bool { return In(n, s.Low, s.High) }

// InSpans reports whether there is a number for each span, and lies in it.
func InSpans(numbers []int, spans []api.Span) bool {
	if len(numbers) != len(spans) {
		return false
	}
	for k, n := range numbers {
		if !InSpan(n, spans[k]) {
			return false
		}
	}
	return true
}

// IsWithin reports whether a span has a number, and none below low or above high.
func IsWithin(s api.Span, low, high int) bool {
	return low <= s.Low && s.Low <= s.High && s.High <= high
}

// IsSpan reports whether a span has a number, and none below 0 or above most.
func IsSpan(s api.Span, most int) bool { return IsWithin(s, 0, most) }

// AreSpans reports whether all spans of a list have a number, and none below 0 or above most.
func AreSpans(spans []api.Span, most int) bool {
	for _, s := range spans {
		if !IsSpan(s, most) {
			return false
		}
	}
	return true
}

// None returns the span without numbers with which With begins.
func None() api.Span { return api.Span{Low: math.MaxInt, High: math.MinInt} }

// With returns the shortest span with a number and all those of another span.
func With(s api.Span, n int) api.Span { return api.Span{Low: min(s.Low, n), High: max(s.High, n)} }

// Low returns the lower end of a span.
func Low(s api.Span) int { return s.Low }

// High returns the upper end of a span.
func High(s api.Span) int { return s.High }

// AreNumbers reports whether a list is strictly increasing numbers of some things, which are numbered from 0 on.
func AreNumbers(list []int, things int) bool {
	least := 0
	for _, n := range list {
		if !In(n, least, things-1) {
			return false
		}
		least = n + 1
	}
	return true
}
