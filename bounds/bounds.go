// Package bounds tells whether numbers, lists of them, and spans lie where they may, which layers ask of their arguments in the same way.
package bounds

import "motu/api"

// In reports whether a number is one from low to high.
func In(n, low, high int) bool { return low <= n && n <= high }

// InSpan reports whether a number is one of a span.
func InSpan(n int, s api.Span) bool { return In(n, s.Low, s.High) }

// IsSpan reports whether a span has a number, and none below 0 or above most.
func IsSpan(s api.Span, most int) bool {
	return 0 <= s.Low && s.Low <= s.High && s.High <= most
}

// Low returns the lower end of a span.
func Low(s api.Span) int { return s.Low }

// High returns the upper end of a span.
func High(s api.Span) int { return s.High }

// AreNumbers reports whether a list is strictly increasing numbers of some things, which are numbered from 0 on.
func AreNumbers(list []int, things int) bool {
	least := 0
	for _, n := range list {
		if !In(n, least, things-1) {
			return false
		}
		least = n + 1
	}
	return true
}
