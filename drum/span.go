package drum

import (
	"cmp"

	"saron/api"
)

func low(s api.Span) int { return s.Low }

func high(s api.Span) int { return s.High }

func within(s api.Span, number int) bool { return s.Low <= number && number <= s.High }

func areWithin(s api.Span, numbers ...int) bool {
	for _, number := range numbers {
		if !within(s, number) {
			return false
		}
	}
	return true
}

// areSpans reports whether these are spans of numbers that all lie within bounds.
func areSpans(bounds api.Span, spans ...api.Span) bool {
	for _, s := range spans {
		if s.Low > s.High || !areWithin(bounds, s.Low, s.High) {
			return false
		}
	}
	return true
}

func most[N cmp.Ordered](first N, more ...N) N {
	for _, n := range more {
		first = max(first, n)
	}
	return first
}
