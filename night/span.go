package night

import "saron/api"

func within(s api.Span, number int) bool { return s.Low <= number && number <= s.High }

func areWithin(s api.Span, numbers ...int) bool {
	for _, number := range numbers {
		if !within(s, number) {
			return false
		}
	}
	return true
}

func sum[N ~int](numbers ...N) N {
	var all N
	for _, n := range numbers {
		all += n
	}
	return all
}
