package heard

import (
	"cmp"

	"saron/api"
)

func within(s api.Span, number int) bool { return s.Low <= number && number <= s.High }

func areWithin(s api.Span, numbers []int) bool {
	for _, number := range numbers {
		if !within(s, number) {
			return false
		}
	}
	return true
}

// areIncreasing reports whether numbers from 0 to below a limit are strictly increasing.
func areIncreasing(numbers []int, limit int) bool {
	before := -1
	for _, n := range numbers {
		if n <= before || n >= limit {
			return false
		}
		before = n
	}
	return true
}

func greatest[N cmp.Ordered](first N, more ...N) N {
	for _, n := range more {
		first = max(first, n)
	}
	return first
}
