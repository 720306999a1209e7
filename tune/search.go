package tune

import (
	"slices"

	"saron/api"
)

// nobody is asked from a spot that is not reached over another key.
const nobody = -1

// spot is a key with a pitch, and the key over which it was reached.
type spot struct{ key, pitch, from int }

// row is a pitch for each key.
type row []int

// breaks reports whether two pitches of the row do not fit.
func (r row) breaks(j join) bool { return !within(j.asks(r[j.one]), r[j.other]) }

// mayBreak reports whether two pitches within Heard do not fit. What is asked for grows with the pitch that asks, so that the ends tell it.
func (s set) mayBreak(j join) bool {
	for _, ask := range [...]side{lowSide(), highSide()} {
		asked := j.asks(ask.end(s.Heard[j.one]))
		for _, answer := range [...]side{lowSide(), highSide()} {
			if !within(asked, answer.end(s.Heard[j.other])) {
				return true
			}
		}
	}
	return false
}

// finder returns a question: whether a spot can be, with all keys that are behind it as seen from where it was reached. No way leads back there, for there is no ring.
func (s set) finder() func(spot) bool {
	known := map[spot]bool{}
	var can func(at spot) bool
	can = func(at spot) bool {
		if is, met := known[at]; met {
			return is
		}
		is := true
	joins:
		for j := range s.joined(at.key) {
			if j.other == at.from {
				continue
			}
			fine := meet(j.asks(at.pitch), s.Heard[j.other])
			for pitch := fine.Low; pitch <= fine.High; pitch++ {
				if can(spot{key: j.other, pitch: pitch, from: at.key}) {
					continue joins
				}
			}
			is = false
			break joins
		}
		known[at] = is
		return is
	}
	return can
}

// utmost returns the pitch of a key that is nearest to a side of what was heard of it, of all that the question finds.
func (s set) utmost(can func(spot) bool, key int, at side) (pitch int, found bool) {
	pitch = at.end(s.Heard[key])
	for within(s.Heard[key], pitch) {
		if can(spot{key: key, pitch: pitch, from: nobody}) {
			return pitch, true
		}
		pitch += at.inward
	}
	return 0, false
}

// ends returns the least and the greatest pitch of a key, of a set that can be in tune.
func (s set) ends(key int) api.Span {
	can := s.finder()
	low, _ := s.utmost(can, key, lowSide())
	high, _ := s.utmost(can, key, highSide())
	return api.Span{Low: low, High: high}
}

func (s set) isTunable() bool {
	can := s.finder()
	for key := range len(s.Heard) {
		if _, found := s.utmost(can, key, lowSide()); !found {
			return false
		}
	}
	return true
}

// tuning returns the first tuning of a set that can be in tune: key by key, each as low as those ahead of it let it be.
func (s set) tuning() row {
	var r row
	for key := range len(s.Heard) {
		pitch, _ := s.utmost(s.finder(), key, lowSide())
		r = append(r, pitch)
		s = s.narrowed(key, pitch)
	}
	return r[:len(r):len(r)]
}

// apart returns the least and the greatest difference of two keys, of a set that can be in tune.
func (s set) apart(one, other int) api.Span {
	var lows, highs []int
	can := s.finder()
	for pitch := s.Heard[one].Low; pitch <= s.Heard[one].High; pitch++ {
		if can(spot{key: one, pitch: pitch, from: nobody}) {
			ends := s.narrowed(one, pitch).ends(other)
			lows = append(lows, ends.Low-pitch)
			highs = append(highs, ends.High-pitch)
		}
	}
	return api.Span{Low: least(lows[0], lows...), High: greatest(highs[0], highs...)}
}

// even returns the narrowest band, the lowest of several, of a set with pairs that can be in tune. The highest beat that a band needs never falls while its lowest one rises, so that one walk meets the best band of each lowest beat.
func (s set) even() api.Span {
	best, band := s.Beat, only(s.Beat.Low)
	for band.High <= s.Beat.High {
		if !s.beating(band).isTunable() {
			band.High++
			continue
		}
		if band.High-band.Low < best.High-best.Low {
			best = band
		}
		band.Low++
	}
	return best
}

// wrong returns the first of the shortest lists of keys without which the others can be in tune.
func (s set) wrong() []int {
	var found []int
	var leave func(list []int, some keys, more int) bool
	leave = func(list []int, some keys, more int) bool {
		if more == 0 {
			found = list[:len(list):len(list)]
			return s.without(some).isTunable()
		}
		first := 0
		if len(list) > 0 {
			first = list[len(list)-1] + 1
		}
		for key := first; key < len(s.Heard); key++ {
			with := some
			with[key] = true
			if leave(append(list[:len(list):len(list)], key), with, more-1) {
				return true
			}
		}
		return false
	}
	for many := range len(s.Heard) {
		if leave(nil, keys{}, many) {
			break
		}
	}
	return slices.Clone(found)
}
