// Package tune knows between what bounds the pitches of a set's keys can truly be: from what was heard of each key, and from what the steps of scales and the beats of pairs must be.
package tune

import (
	"slices"

	"saron/api"
)

// Check checks a set: it returns ErrTune unless the set is valid.
func Check(s api.TuneSet) api.Errno {
	if !isValid(s) {
		return api.ErrTune
	}
	return api.OK
}

// IsTuning reports whether pitches are a tuning of a set.
func IsTuning(s api.TuneSet, pitches []int) (bool, api.Errno) {
	if e := Check(s); e != api.OK {
		return false, e
	}
	if len(pitches) != len(s.Heard) {
		return false, api.OK
	}
	for key, pitch := range pitches {
		if !within(s.Heard[key], pitch) {
			return false, api.OK
		}
	}
	return !slices.ContainsFunc(joinsOf(s), row(pitches).breaks), api.OK
}

// Tuning returns a tuning of a set.
func Tuning(s api.TuneSet) ([]int, api.Errno) {
	t, e := ask(s)
	if e != api.OK {
		return nil, e
	}
	return t.tuning(), api.OK
}

// Pitch returns the least and the greatest pitch that a key has in all tunings.
func Pitch(s api.TuneSet, key int) (api.Span, api.Errno) {
	t, e := ask(s, key)
	if e != api.OK {
		return api.Span{}, e
	}
	return t.ends(key), api.OK
}

// Can reports whether a key has a pitch in some tuning.
func Can(s api.TuneSet, key, pitch int) (bool, api.Errno) {
	t, e := ask(s, key)
	if e != api.OK {
		return false, e
	}
	if !within(t.Heard[key], pitch) {
		return false, api.OK
	}
	return t.narrowed(key, pitch).isTunable(), api.OK
}

// Apart returns the least and the greatest difference of the pitch of other less that of one, in all tunings.
func Apart(s api.TuneSet, one, other int) (api.Span, api.Errno) {
	t, e := ask(s, one, other)
	if e != api.OK {
		return api.Span{}, e
	}
	return t.apart(one, other), api.OK
}

// Even returns the narrowest band in which the beats of all pairs of some tuning lie, of several the lowest one.
func Even(s api.TuneSet) (api.Span, api.Errno) {
	if e := Check(s); e != api.OK {
		return api.Span{}, e
	}
	if len(s.Pairs) == 0 {
		return api.Span{}, api.ErrNone
	}
	t, e := ask(s)
	if e != api.OK {
		return api.Span{}, e
	}
	return t.even(), api.OK
}

// Sure reports whether a set is in tune, whatever its pitches within Heard are.
func Sure(s api.TuneSet) (bool, api.Errno) {
	if e := Check(s); e != api.OK {
		return false, e
	}
	t := newSet(s)
	return !slices.ContainsFunc(t.joins, t.mayBreak), api.OK
}

// Wrong returns the fewest keys without which the others can be in tune, of several lists the first one.
func Wrong(s api.TuneSet) ([]int, api.Errno) {
	if e := Check(s); e != api.OK {
		return nil, e
	}
	return newSet(s).wrong(), api.OK
}

// ask returns the set in the calculation, unless it is wrong, or not all of the keys are its own, or it cannot be in tune.
func ask(s api.TuneSet, all ...int) (set, api.Errno) {
	if e := Check(s); e != api.OK {
		return set{}, e
	}
	for _, key := range all {
		if key < 0 || key >= len(s.Heard) {
			return set{}, api.ErrTuneAsk
		}
	}
	t := newSet(s)
	if !t.isTunable() {
		return set{}, api.ErrTuneFalse
	}
	return t, api.OK
}
