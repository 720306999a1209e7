package tune

import "saron/api"

// The kinds of joins: a step seen from its earlier key, and from its later one; a pair seen from its lower key, and from its higher one.
const (
	fromEarlier = iota
	fromLater
	fromLower
	fromHigher
)

// parts is how many parts of a pitch a step counts.
const parts = 1000

// join is what the pitch of one key asks of the pitch of the other one.
type join struct {
	kind, one, other int
	bound            api.Span
}

// rule is what a kind of join asks for, and of which kind the same join is, seen from its other key.
type rule struct {
	asks func(j join, pitch int) api.Span
	back int
}

func ruleOf(kind int) rule {
	rules := [...]rule{
		fromEarlier: {asks: join.later, back: fromLater},
		fromLater:   {asks: join.earlier, back: fromEarlier},
		fromLower:   {asks: join.higher, back: fromHigher},
		fromHigher:  {asks: join.lower, back: fromLower},
	}
	return rules[kind]
}

// asks returns which pitches the other key can have, if the one key has this pitch. It can be a span without any pitch: one whose Low is above its High.
func (j join) asks(pitch int) api.Span { return ruleOf(j.kind).asks(j, pitch) }

// back returns the same join, seen from the other key.
func (j join) back() join {
	return join{kind: ruleOf(j.kind).back, one: j.other, other: j.one, bound: j.bound}
}

// touches reports whether the join joins one of these keys.
func (j join) touches(some keys) bool { return some[j.one] || some[j.other] }

func (j join) later(pitch int) api.Span {
	return api.Span{Low: upward(j.bound.Low*pitch, parts), High: j.bound.High * pitch / parts}
}

func (j join) earlier(pitch int) api.Span {
	return api.Span{Low: upward(parts*pitch, j.bound.High), High: parts * pitch / j.bound.Low}
}

func (j join) higher(pitch int) api.Span {
	return api.Span{Low: pitch + j.bound.Low, High: pitch + j.bound.High}
}

func (j join) lower(pitch int) api.Span {
	return api.Span{Low: pitch - j.bound.High, High: pitch - j.bound.Low}
}

// upward divides numbers that are not below 0, and rounds up.
func upward(number, by int) int { return (number + by - 1) / by }
