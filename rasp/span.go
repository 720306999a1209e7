package rasp

import (
	"cmp"

	"saron/api"
)

func within(s api.Span, number int) bool { return s.Low <= number && number <= s.High }

func only(number int) api.Span { return api.Span{Low: number, High: number} }

func greatest[N cmp.Ordered](first N, more ...N) N {
	for _, n := range more {
		first = max(first, n)
	}
	return first
}

func least[N cmp.Ordered](first N, more ...N) N {
	for _, n := range more {
		first = min(first, n)
	}
	return first
}
