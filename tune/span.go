package tune

import (
	"cmp"

	"saron/api"
)

// side is an end of spans, and which way it is from there to the other end.
type side struct {
	end    func(api.Span) int
	inward int
}

func lowSide() side { return side{end: func(s api.Span) int { return s.Low }, inward: 1} }

func highSide() side { return side{end: func(s api.Span) int { return s.High }, inward: -1} }

func within(s api.Span, number int) bool { return s.Low <= number && number <= s.High }

// isSpan reports whether a span is one that lies between low and high.
func isSpan(s api.Span, low, high int) bool { return low <= s.Low && s.Low <= s.High && s.High <= high }

// meet returns what lies in both spans, if anything does.
func meet(one, other api.Span) api.Span {
	return api.Span{Low: greatest(one.Low, other.Low), High: least(one.High, other.High)}
}

func only(number int) api.Span { return api.Span{Low: number, High: number} }

func least[N cmp.Ordered](first N, more ...N) N {
	for _, n := range more {
		first = min(first, n)
	}
	return first
}

func greatest[N cmp.Ordered](first N, more ...N) N {
	for _, n := range more {
		first = max(first, n)
	}
	return first
}
