package lock

import "saron/api"

// split is which slots each player strikes.
type split [2]strikes

// players returns who strikes each one of so many slots.
func (s split) players(slots int) []int {
	var list []int
	for slot := range slots {
		player := nothing
		for who, struck := range s {
			if struck[slot] {
				player = who
			}
		}
		list = append(list, player)
	}
	return list[:len(list):len(list)]
}

// difference returns by how many slots one player strikes more than the other one.
func (s split) difference() int {
	left, right := s[api.LockLeft].many(), s[api.LockRight].many()
	return most(left-right, right-left)
}

func (s split) isFairer(other split) bool { return s.difference() < other.difference() }

// choice is the best one of all splits that were met, the first one of several.
type choice struct {
	isBetter func(one, other split) bool
	best     split
	isAny    bool
}

func (c *choice) meet(s split) {
	if !c.isAny || c.isBetter(s, c.best) {
		c.best, c.isAny = s, true
	}
}
