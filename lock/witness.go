package lock

import (
	"iter"

	"saron/api"
)

// witness is a line, and what was heard of a player.
type witness struct {
	line
	who   int
	heard []int
}

func newWitness(l api.LockLine, who int, heard []int) witness { return witness{line{l}, who, heard} }

// isRight reports whether this can be what was heard of a player.
func (w witness) isRight() bool { return isPlayer(w.who) && areIncreasing(w.heard, len(w.Slots)) }

// alone returns the players of whom this one strikes just what was heard, and the other one all else.
func (w witness) alone() duet {
	var s split
	s[w.who] = strikesOf(w.heard)
	s[mateOf(w.who)] = w.struck().without(s[w.who])
	return duet{w.line, s.players(len(w.Slots))}
}

// losses goes through the strokes that were lost in each split that fits, however many these are.
func (w witness) losses() iter.Seq[strikes] {
	return func(yield func(strikes) bool) {
		heard := strikesOf(w.heard)
		for s := range w.splits() {
			struck := s[w.who]
			if heard.without(struck) != (strikes{}) {
				continue
			}
			if !yield(struck.without(heard)) {
				return
			}
		}
	}
}

// count returns in how many splits that fit each slot was lost, if no more strokes than these were.
func (w witness) count(lost int) tally {
	var t tally
	for s := range w.losses() {
		if s.many() <= lost {
			t.add(s)
		}
	}
	return t
}

// least returns how few strokes were lost in a split that fits, if there is any.
func (w witness) least() (fewest int, isAny bool) {
	for s := range w.losses() {
		if many := s.many(); !isAny || many < fewest {
			fewest, isAny = many, true
		}
	}
	return fewest, isAny
}
