package tune

import (
	"iter"
	"slices"

	"saron/api"
)

// leastStep is the least step, in thousandths: api tells the greatest one alone.
const leastStep = 200

// keys is some keys of a set, by their numbers.
type keys [api.TuneKeys]bool

// set is a set in the calculation: it knows all joins, in the order of the document, each once.
type set struct {
	api.TuneSet
	joins []join
}

func newSet(s api.TuneSet) set { return set{TuneSet: s, joins: joinsOf(s)} }

func joinsOf(s api.TuneSet) []join {
	var list []join
	for _, scale := range s.Scales {
		for i, step := range scale.Steps {
			list = append(list, join{kind: fromEarlier, one: scale.Keys[i], other: scale.Keys[i+1], bound: step})
		}
	}
	for _, pair := range s.Pairs {
		list = append(list, join{kind: fromLower, one: pair[0], other: pair[1], bound: s.Beat})
	}
	return list
}

// joined goes through all joins of a key, as they are seen from it.
func (s set) joined(key int) iter.Seq[join] {
	return func(yield func(join) bool) {
		for _, j := range s.joins {
			if j.other == key {
				j = j.back()
			}
			if j.one == key && !yield(j) {
				return
			}
		}
	}
}

// narrowed returns the set in which the key was heard to have just this pitch.
func (s set) narrowed(key, pitch int) set {
	s.Heard = slices.Clone(s.Heard)
	s.Heard[key] = only(pitch)
	return s
}

// beating returns the set whose pairs must beat so.
func (s set) beating(beat api.Span) set {
	s.Beat = beat
	return newSet(s.TuneSet)
}

// without returns the set in which nothing is asked of some keys, nor by them.
func (s set) without(some keys) set {
	var left []join
	for _, j := range s.joins {
		if !j.touches(some) {
			left = append(left, j)
		}
	}
	s.joins = left
	return s
}

func isValid(s api.TuneSet) bool {
	return areHeard(s.Heard) && areScales(s) && arePairs(s) && isSpan(s.Beat, 0, api.TuneBeat) && !hasRing(joinsOf(s))
}

func areHeard(heard []api.Span) bool {
	if len(heard) < 1 || len(heard) > api.TuneKeys {
		return false
	}
	for _, h := range heard {
		if !isSpan(h, 1, api.TunePitch) || h.High-h.Low > api.TuneWide {
			return false
		}
	}
	return true
}

func areScales(s api.TuneSet) bool {
	if len(s.Scales) > api.TuneScales {
		return false
	}
	for _, scale := range s.Scales {
		// No list of steps is one shorter than an empty list of keys.
		if len(scale.Steps) != len(scale.Keys)-1 || !areDifferent(scale.Keys, len(s.Heard)) {
			return false
		}
		for _, step := range scale.Steps {
			if !isSpan(step, leastStep, api.TuneStep) {
				return false
			}
		}
	}
	return true
}

func arePairs(s api.TuneSet) bool {
	if len(s.Pairs) > api.TunePairs {
		return false
	}
	for _, pair := range s.Pairs {
		if !areDifferent(pair[:], len(s.Heard)) {
			return false
		}
	}
	return true
}

// areDifferent reports whether these are different keys of a set that has so many.
func areDifferent(list []int, many int) bool {
	var met keys
	for _, key := range list {
		if key < 0 || key >= many || met[key] {
			return false
		}
		met[key] = true
	}
	return true
}

// hasRing reports whether a join joins two keys that those ahead of it have joined already.
func hasRing(joins []join) bool {
	var groups [api.TuneKeys]keys
	for key := range groups {
		groups[key][key] = true
	}
	for _, j := range joins {
		one, other := groups[j.one], groups[j.other]
		if both(one, other) != (keys{}) {
			return true
		}
		whole := either(one, other)
		for key, met := range whole {
			if met {
				groups[key] = whole
			}
		}
	}
	return false
}

func both(one, other keys) keys {
	for key := range one {
		one[key] = one[key] && other[key]
	}
	return one
}

func either(one, other keys) keys {
	for key := range one {
		one[key] = one[key] || other[key]
	}
	return one
}
