package lock

import "saron/api"

// sounds are, of each slot, the set of the tones that are heard there.
type sounds [api.LockSlots]int

// soundsOf returns the sounds of these lists of tones.
func soundsOf(lists [][]int) sounds {
	var s sounds
	for slot, list := range lists {
		for _, tone := range list {
			s[slot] |= 1 << tone
		}
	}
	return s
}

// lists returns the tones, increasing, that are heard at each one of so many slots.
func (s sounds) lists(slots int) [][]int {
	var all [][]int
	for _, set := range s[:slots] {
		var list []int
		for tone := range api.LockTones {
			if set>>tone&1 == 1 {
				list = append(list, tone)
			}
		}
		all = append(all, list[:len(list):len(list)])
	}
	return all[:len(all):len(all)]
}

// areTones reports whether there is a list of tones for each slot, strictly increasing.
func (l line) areTones(lists [][]int) bool {
	if len(lists) != len(l.Slots) {
		return false
	}
	for _, list := range lists {
		if !areIncreasing(list, api.LockTones) {
			return false
		}
	}
	return true
}
