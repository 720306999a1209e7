package settle

import (
	"slices"

	"saron/api"
)

// stays stands in a tuning for a key that stays as it is.
const stays = -1

// part is neighbours of a set that can be true, from one key to another one.
type part struct {
	set
	first, last int
}

func (c set) whole() part { return part{c, 0, len(c.Keys) - 1} }

// steps returns the steps between the neighbours.
func (p part) steps() []api.Span { return p.Steps[p.first:p.last:p.last] }

// pitches returns between what the pitches of the neighbours lie in a year.
func (p part) pitches(year int) spans {
	var all spans
	for key := p.first; key <= p.last; key++ {
		all[key-p.first] = p.was[key][year]
	}
	return all
}

// reach returns all pitches to which a key can be brought, whatever its pitch is.
func (p part) reach(key int) api.Span {
	k, now := p.Keys[key], p.was[key][p.Years]
	return api.Span{Low: now.High - k.Down, High: now.Low + k.Up}
}

// does reports whether a tuning of the neighbours does.
func (p part) does(tuning []int) bool {
	all := p.pitches(p.Years)
	for i, pitch := range tuning {
		if pitch == stays {
			continue
		}
		if p.Keys[p.first+i].Fixed || !within(p.reach(p.first+i), pitch) {
			return false
		}
		all[i] = only(pitch)
	}
	return all.keep(p.steps())
}

// tuned returns a tuning of just these keys, which does if any such one does: the lowest one.
func (p part) tuned(keys []int) []int {
	tuning := slices.Repeat([]int{stays}, p.last-p.first+1)
	all := p.pitches(p.Years)
	for i := range tuning {
		all[i] = turned(all[i])
	}
	for _, key := range keys {
		all[key-p.first] = p.reach(key)
	}
	all = all.settled(p.steps())
	for _, key := range keys {
		tuning[key-p.first] = lowSide().end(all[key-p.first])
	}
	return tuning
}

// turned returns what a key that stays as it is tells its neighbours. A key that is tuned can have one of its pitches, which its neighbours choose: what they can be grows with its span. A key that stays can have any of them, and each must do: so it is the High that tells how low the neighbours can be.
func turned(s api.Span) api.Span { return api.Span{Low: s.High, High: s.Low} }

// changeable returns all keys of the neighbours that can be tuned, increasing.
func (p part) changeable() []int {
	var list []int
keys:
	for key := p.first; key <= p.last; key++ {
		if p.Keys[key].Fixed {
			continue keys
		}
		list = append(list, key)
	}
	return list[:len(list):len(list)]
}

// tuning returns a tuning of the neighbours that does and tunes as few keys as any, if some does.
func (p part) tuning() (tuning []int, isFound bool) {
	_, isFound = fewest(p.changeable(), func(keys []int) bool {
		tuning = p.tuned(keys)
		return p.does(tuning)
	})
	return tuning, isFound
}

// torn returns the first of the fewest neighbours of which no tuning does, if no tuning of all keys does.
func (c set) torn() (p part, isTorn bool) {
	for more := range c.Keys {
		for first := range len(c.Keys) - more {
			p := part{c, first, first + more}
			if _, isFound := p.tuning(); !isFound {
				return p, true
			}
		}
	}
	return part{}, false
}
