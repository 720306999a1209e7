package lock

import "saron/api"

// strikes is, of each slot, whether a player strikes it.
type strikes [api.LockSlots]bool

// strikesOf returns the strikes of these slots.
func strikesOf(slots []int) strikes {
	var s strikes
	for _, slot := range slots {
		s[slot] = true
	}
	return s
}

func (s strikes) without(other strikes) strikes {
	for slot := range s {
		s[slot] = s[slot] && !other[slot]
	}
	return s
}

func (s strikes) many() int {
	many := 0
	for _, isStruck := range s {
		if isStruck {
			many++
		}
	}
	return many
}

// slots returns the slots that are struck, increasing.
func (s strikes) slots() []int {
	var list []int
	for slot, isStruck := range s {
		if isStruck {
			list = append(list, slot)
		}
	}
	return list[:len(list):len(list)]
}

// tally is how many splits there are, and in how many of them each slot is struck.
type tally struct {
	splits int
	struck [api.LockSlots]int
}

func (t *tally) add(s strikes) {
	t.splits++
	for slot, isStruck := range s {
		if isStruck {
			t.struck[slot]++
		}
	}
}

// inAll returns the slots that are struck in all splits, of which there is one at least.
func (t tally) inAll() strikes {
	var s strikes
	for slot, many := range t.struck {
		s[slot] = many == t.splits
	}
	return s
}

// inSome returns the slots that are struck in some splits, but not in all.
func (t tally) inSome() strikes {
	var s strikes
	for slot, many := range t.struck {
		s[slot] = 0 < many && many < t.splits
	}
	return s
}
