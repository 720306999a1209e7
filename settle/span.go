package settle

import (
	"cmp"

	"saron/api"
)

// side is an end of spans.
type side struct{ end func(api.Span) int }

func lowSide() side { return side{end: func(s api.Span) int { return s.Low }} }

func highSide() side { return side{end: func(s api.Span) int { return s.High }} }

func within(s api.Span, number int) bool { return s.Low <= number && number <= s.High }

// holds reports whether all of another span lies in a span.
func holds(s, other api.Span) bool { return s.Low <= other.Low && other.High <= s.High }

func isEmpty(s api.Span) bool { return s.Low > s.High }

func only(number int) api.Span { return api.Span{Low: number, High: number} }

// meet returns what lies in both spans: an empty span, if nothing does.
func meet(one, other api.Span) api.Span {
	return api.Span{Low: greatest(one.Low, other.Low), High: least(one.High, other.High)}
}

// plus returns between what the sum of two numbers lies.
func plus(one, other api.Span) api.Span {
	return api.Span{Low: one.Low + other.Low, High: one.High + other.High}
}

// minus returns between what lies how much greater the one number is than the other one.
func minus(one, other api.Span) api.Span {
	return api.Span{Low: one.Low - other.High, High: one.High - other.Low}
}

func greatest[N cmp.Ordered](first N, more ...N) N {
	for _, n := range more {
		first = max(first, n)
	}
	return first
}

func least[N cmp.Ordered](first N, more ...N) N {
	for _, n := range more {
		first = min(first, n)
	}
	return first
}
