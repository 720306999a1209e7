package lock

import (
	"cmp"

	"saron/api"
)

func within(s api.Span, number int) bool { return s.Low <= number && number <= s.High }

// areIncreasing reports whether a list is strictly increasing, of numbers from 0 on and below this one.
func areIncreasing(list []int, below int) bool {
	least := 0
	for _, number := range list {
		if number < least || number >= below {
			return false
		}
		least = number + 1
	}
	return true
}

func most[N cmp.Ordered](first N, more ...N) N {
	for _, n := range more {
		first = max(first, n)
	}
	return first
}
