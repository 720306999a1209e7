package lock

import (
	"iter"

	"saron/api"
)

// nothing is in the place of a tone where nothing is struck, and in the place of the player who strikes there.
const nothing = -1

// The numbers that have bounds.
const (
	manySlots = iota
	toneOfSlot
	tonesOfPlayer
	slotsInRow
	numberOfPlayer
	slotsLate
	strokesLost
)

var bounds = [...]api.Span{
	manySlots:      {Low: 1, High: api.LockSlots},
	toneOfSlot:     {Low: nothing, High: api.LockTones - 1},
	tonesOfPlayer:  {Low: 0, High: 1<<api.LockTones - 1},
	slotsInRow:     {Low: 1, High: api.LockSlots},
	numberOfPlayer: {Low: api.LockLeft, High: api.LockRight},
	slotsLate:      {Low: 0, High: api.LockLate},
	strokesLost:    {Low: 0, High: api.LockLost},
}

func isValid(l api.LockLine) bool {
	if !within(bounds[manySlots], len(l.Slots)) || !within(bounds[slotsInRow], l.Run) {
		return false
	}
	for _, tone := range l.Slots {
		if !within(bounds[toneOfSlot], tone) {
			return false
		}
	}
	return within(bounds[tonesOfPlayer], l.Left) && within(bounds[tonesOfPlayer], l.Right) &&
		line{l}.struck() != strikes{}
}

func isPlayer(who int) bool { return within(bounds[numberOfPlayer], who) }

// mateOf returns the other player.
func mateOf(who int) int { return api.LockLeft + api.LockRight - who }

// line is a line in the calculation.
type line struct{ api.LockLine }

func (l line) left() int { return l.Left }

func (l line) right() int { return l.Right }

// tones returns, of each player, what tells the tones of this player.
func tones() [2]func(l line) int {
	return [...]func(l line) int{api.LockLeft: line.left, api.LockRight: line.right}
}

// struck returns the slots at which something is struck.
func (l line) struck() strikes {
	var s strikes
	for slot, tone := range l.Slots {
		s[slot] = tone != nothing
	}
	return s
}

// round returns which slot of the line this is, if it lies before its begin or behind its end.
func (l line) round(slot int) int {
	many := len(l.Slots)
	return (slot%many + many) % many
}

// rules returns what must be so of each slot that a player strikes in a split.
func (l line) rules() [2]func(s split, who, slot int) bool {
	return [...]func(s split, who, slot int) bool{l.hasTone, l.hasRest}
}

// hasTone reports whether a player has the tone of a slot.
func (l line) hasTone(_ split, who, slot int) bool {
	return l.Slots[slot] != nothing && tones()[who](l)>>l.Slots[slot]&1 == 1
}

// hasRest reports whether a player does not strike too often in a row around a slot that this player strikes.
func (l line) hasRest(s split, who, slot int) bool {
	inRow := 1
	for _, step := range [...]int{1, -1} {
		// It is left also where the player strikes all slots, so that the row has no end.
		for at := slot + step; inRow <= l.Run && s[who][l.round(at)]; at += step {
			inRow++
		}
	}
	return inRow <= l.Run
}

// splits goes through all splits, in their order.
func (l line) splits() iter.Seq[split] {
	return func(yield func(split) bool) {
		rules := l.rules()
		var divide func(s split, slot int) bool
		divide = func(s split, slot int) bool {
			switch {
			case slot == len(l.Slots):
				return yield(s)
			case l.Slots[slot] == nothing:
				return divide(s, slot+1)
			}
		players:
			for who := range s {
				with := s
				with[who][slot] = true
				// Slots that are not yet divided end a row, so the rows over the end of the line are met at its last slot.
				for _, isSo := range rules {
					if !isSo(with, who, slot) {
						continue players
					}
				}
				if !divide(with, slot+1) {
					return false
				}
			}
			return true
		}
		divide(split{}, 0)
	}
}

// fairest returns the split with the least difference, the first one of several, if there is any.
func (l line) fairest() (best split, isAny bool) {
	c := choice{isBetter: split.isFairer}
	for s := range l.splits() {
		c.meet(s)
	}
	return c.best, c.isAny
}

// count returns in how many splits the left player strikes each slot.
func (l line) count() tally {
	var t tally
	for s := range l.splits() {
		t.add(s[api.LockLeft])
	}
	return t
}
