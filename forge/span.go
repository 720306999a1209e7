package forge

import "saron/api"

func within(s api.Span, number int) bool { return s.Low <= number && number <= s.High }

func only(number int) api.Span { return api.Span{Low: number, High: number} }

func sum[N ~int](numbers ...N) N {
	var all N
	for _, n := range numbers {
		all += n
	}
	return all
}
