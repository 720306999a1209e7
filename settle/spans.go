package settle

import (
	"slices"

	"saron/api"
)

// spans is between what pitches lie that follow each other: those of a key from year to year, or those of neighbours in one year. Behind the last one there is nothing.
type spans [api.SettleYears + 1]api.Span

// forth narrows each pitch but the first one by the one before it; a step is by how much the next pitch is higher.
func (s spans) forth(steps []api.Span) spans {
	for i, step := range steps {
		s[i+1] = meet(s[i+1], plus(s[i], step))
	}
	return s
}

// back narrows each pitch but the last one by the one after it.
func (s spans) back(steps []api.Span) spans {
	for i, step := range slices.Backward(steps) {
		s[i] = meet(s[i], minus(s[i+1], step))
	}
	return s
}

// The directions of time.
const (
	forward = iota
	backward
)

func directions() [2]func(spans, []api.Span) spans {
	return [...]func(spans, []api.Span) spans{
		forward:  spans.forth,
		backward: spans.back,
	}
}

// settled narrows all pitches until nothing changes. That ends also where they contradict each other: what a pitch tells the next one, and is told back, never narrows it, as the Low of a step is not above its High.
func (s spans) settled(steps []api.Span) spans {
	for {
		before := s
		for _, narrowed := range directions() {
			s = narrowed(s, steps)
		}
		if s == before {
			return s
		}
	}
}

// contradict reports whether one of the first pitches can be none.
func (s spans) contradict(many int) bool { return slices.ContainsFunc(s[:many:many], isEmpty) }

// ends returns this end of the first pitches. Of settled pitches the ends keep all steps: of two rows that do, the lower ones of their pitches do, and the higher ones.
func (s spans) ends(many int, at side) []int {
	var list []int
	for _, pitch := range s[:many:many] {
		list = append(list, at.end(pitch))
	}
	return list[:len(list):len(list)]
}

// keep reports whether the pitches keep all steps, whatever they are.
func (s spans) keep(steps []api.Span) bool {
	for i, step := range steps {
		if !holds(step, minus(s[i+1], s[i])) {
			return false
		}
	}
	return true
}
