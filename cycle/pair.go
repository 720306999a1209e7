package cycle

import (
	"iter"

	"saron/api"
)

// never stands for more beats than can be heard.
const never = api.CycleHeard + 1

// pair is two different spots of a book, of which one comes before the other one.
type pair struct {
	book
	one, other api.CycleSpot
}

// pairs goes through all pairs, in the order of the one spot, then of the other one.
func (c book) pairs() iter.Seq[pair] {
	return func(yield func(pair) bool) {
		spots := c.spots()
		for i, one := range spots {
			for _, other := range spots[i+1:] {
				if !yield(pair{c, one, other}) {
					return
				}
			}
		}
	}
}

// meeting is what is struck at the same beat of the passages from two spots.
type meeting struct{ one, other gongs }

func (m meeting) onlyOne() gongs { return m.one.without(m.other) }

func (m meeting) onlyOther() gongs { return m.other.without(m.one) }

// sides returns what two spots do not share at a beat, each from its side.
func sides() [2]func(meeting) gongs {
	return [...]func(meeting) gongs{meeting.onlyOne, meeting.onlyOther}
}

// known returns the least number of beats in which the two spots cannot be confused, with so many strokes lost at most, or never. What can be heard of both is no more than what they share, so all that they do not share was lost on its side; with each beat it only becomes more.
func (p pair) known(most int) int {
	all := sides()
	var lost [len(all)]int
	for beat, struck := range p.passage(p.one, api.CycleHeard) {
		met := meeting{struck, p.struckAt(p.other.Form, p.other.Begin+beat)}
		for side, only := range all {
			lost[side] += len(only(met).list())
		}
		if greatest(lost[0], lost[1:]...) > most {
			return beat + 1
		}
	}
	return never
}

// listener heard so many beats, and lost so many strokes at most.
type listener struct{ beats, lost int }

func (l listener) canConfuse(p pair) bool { return p.known(l.lost) > l.beats }

// firstPair returns the first pair that is what is looked for, if any is.
func (c book) firstPair(isIt func(pair) bool) (found pair, isFound bool) {
	for p := range c.pairs() {
		if isIt(p) {
			return p, true
		}
	}
	return pair{}, false
}

// sure returns the least number of beats in which no pair can be confused, or never.
func (c book) sure(lost int) int {
	beats := 0
	for p := range c.pairs() {
		beats = greatest(beats, p.known(lost))
	}
	return beats
}
