package kernel

import (
	"cmp"

	"saron/api"
)

func within(s api.Span, number int) bool { return s.Low <= number && number <= s.High }

func least[N cmp.Ordered](first N, more ...N) N {
	for _, n := range more {
		first = min(first, n)
	}
	return first
}
