package lock

import (
	"iter"

	"saron/api"
)

// duet is a line, and who is to strike each slot of it.
type duet struct {
	line
	players []int
}

func newDuet(l api.LockLine, players []int) duet { return duet{line{l}, players} }

// isSplit reports whether the players are a split of the line.
func (d duet) isSplit() bool {
	if len(d.players) != len(d.Slots) {
		return false
	}
	s, rules := d.split(), d.rules()
	for slot, who := range d.players {
		if who == nothing && d.Slots[slot] == nothing {
			continue
		}
		if !isPlayer(who) {
			return false
		}
		for _, isSo := range rules {
			if !isSo(s, who, slot) {
				return false
			}
		}
	}
	return true
}

// split returns which slots each player strikes.
func (d duet) split() split {
	var s split
	for slot, player := range d.players {
		for who := range s {
			s[who][slot] = player == who
		}
	}
	return s
}

// lateness is who is late, and by how many slots.
type lateness struct{ who, slots int }

func (x lateness) isRight() bool { return isPlayer(x.who) && within(bounds[slotsLate], x.slots) }

// latenesses goes through all that there can be, by the player, then by the slots.
func latenesses() iter.Seq[lateness] {
	return func(yield func(lateness) bool) {
		for who := range len(tones()) {
			for slots := range api.LockLate + 1 {
				if !yield(lateness{who, slots}) {
					return
				}
			}
		}
	}
}

// heard returns what is heard if somebody is so late.
func (d duet) heard(x lateness) sounds {
	var all sounds
	for slot, who := range d.players {
		if who == nothing {
			continue
		}
		at := slot
		if who == x.who {
			at = d.round(slot + x.slots)
		}
		all[at] |= 1 << d.Slots[slot]
	}
	return all
}

// ways returns what is heard, whoever is late, and by how many slots.
func (d duet) ways() map[lateness]sounds {
	all := map[lateness]sounds{}
	for x := range latenesses() {
		all[x] = d.heard(x)
	}
	return all
}

// which returns who can have been late, and by how many slots, if this was heard.
func (d duet) which(heard sounds) [][2]int {
	var list [][2]int
	ways := d.ways()
	for x := range latenesses() {
		if ways[x] == heard {
			list = append(list, [2]int{x.who, x.slots})
		}
	}
	return list[:len(list):len(list)]
}

// told returns up to how many slots what is heard tells who is late, and by how many: fewer than somebody is late in any two ways that sound the same.
func (d duet) told() int {
	told := api.LockLate
	ways := d.ways()
	for one := range latenesses() {
		for other := range latenesses() {
			latest := most(one.slots, other.slots)
			// If nobody is late it does not matter who is not.
			if one != other && latest > 0 && ways[one] == ways[other] {
				told = min(told, latest-1)
			}
		}
	}
	return told
}
