package drum

import (
	"iter"
	"slices"
	"sort"

	"saron/api"
)

// The numbers that have bounds.
const (
	manyParts = iota
	beatsOfPart
	lengthOfBeat
	densityOfPart
	lengthOfCycle
	slipAtMark
	manyPlayers
	lateAtFirst
	caughtInBeat
	heardOfMark
)

var bounds = [...]api.Span{
	manyParts:     {Low: 1, High: api.DrumParts},
	beatsOfPart:   {Low: 1, High: api.DrumSize},
	lengthOfBeat:  {Low: 1, High: api.DrumBeat},
	densityOfPart: {Low: 0, High: api.DrumLevels - 1},
	lengthOfCycle: {Low: 0, High: api.DrumParts * api.DrumSize * api.DrumBeat},
	slipAtMark:    {Low: 0, High: api.DrumCatch},
	manyPlayers:   {Low: 1, High: api.DrumPlayers},
	lateAtFirst:   {Low: 0, High: api.DrumLate},
	caughtInBeat:  {Low: 0, High: api.DrumCatch},
	heardOfMark:   {Low: api.DrumLost, High: api.DrumUp},
}

func isValid(b api.DrumBook) bool {
	// How long a list is comes first: no longer one is gone through.
	if len(b.Beats) != api.DrumLevels || !within(bounds[manyPlayers], len(b.Players)) {
		return false
	}
	for _, player := range b.Players {
		if !isValidPlayer(player) {
			return false
		}
	}
	return within(bounds[manyParts], b.Parts) && within(bounds[beatsOfPart], b.Size) &&
		areWithin(bounds[lengthOfBeat], b.Beats...) && areWithin(bounds[densityOfPart], b.Start, b.End) &&
		areSpans(bounds[lengthOfCycle], b.Time) && areSpans(bounds[slipAtMark], b.Slip) &&
		within(api.Span{Low: 1, High: b.Size}, b.Notice)
}

func isValidPlayer(p api.DrumPlayer) bool {
	return areSpans(bounds[lateAtFirst], p.Late) &&
		len(p.Catch) == api.DrumLevels && areSpans(bounds[caughtInBeat], p.Catch...)
}

// book is a book in the calculation.
type book struct{ api.DrumBook }

// beats returns how many beats the cycle has.
func (c book) beats() int { return c.Parts * c.Size }

func (c book) isPlayer(player int) bool { return 0 <= player && player < len(c.Players) }

func (c book) isPart(part int) bool { return 0 <= part && part < c.Parts }

// hasBeats reports whether the cycle has so many beats, or more.
func (c book) hasBeats(beats int) bool { return 0 <= beats && beats <= c.beats() }

func (c book) start() place { return place{0, c.Start} }

func (c book) end() place { return place{c.Parts - 1, c.End} }

func (c book) startsRight(p path, part int) bool { return part > 0 || p.place(part) == c.start() }

// rules returns what must be so of each part of a path, if it is so of the parts before it.
func (c book) rules() [3]func(p path, part int) bool {
	return [...]func(p path, part int) bool{path.hasDensity, c.startsRight, path.isNear}
}

func (c book) isPath(p path) bool {
	if len(p) != c.Parts {
		return false
	}
	rules := c.rules()
	for part := range p {
		for _, isSo := range rules {
			if !isSo(p, part) {
				return false
			}
		}
	}
	return true
}

// paths goes through all paths, in their order.
func (c book) paths() iter.Seq[path] {
	return func(yield func(path) bool) {
		rules := c.rules()
		var follow func(p path) bool
		follow = func(p path) bool {
			part := len(p)
			if part == c.Parts {
				return yield(p)
			}
		densities:
			for density := range api.DrumLevels {
				// Without room behind its end p is copied, so that no two paths share memory.
				longer := append(p[:part:part], density)
				for _, isSo := range rules {
					if !isSo(longer, part) {
						continue densities
					}
				}
				if !follow(longer) {
					return false
				}
			}
			return true
		}
		follow(nil)
	}
}

// lasts returns how long a path lasts.
func (c book) lasts(p path) int {
	sum := 0
	for _, density := range p {
		sum += c.Size * c.Beats[density]
	}
	return sum
}

// isPlan reports whether a path of the book is a plan.
func (c book) isPlan(p path) bool {
	return p.place(c.Parts-1) == c.end() && within(c.Time, c.lasts(p)) &&
		c.latest().after(p, c.beats()) == lateness{}
}

// those goes through the paths of which this is so.
func those(paths iter.Seq[path], isSo func(p path) bool) iter.Seq[path] {
	return func(yield func(path) bool) {
		for p := range paths {
			if isSo(p) && !yield(p) {
				return
			}
		}
	}
}

// plans goes through all plans, in their order.
func (c book) plans() iter.Seq[path] { return those(c.paths(), c.isPlan) }

// hasPlan reports whether there is a plan.
func (c book) hasPlan() bool {
	for range c.plans() {
		return true
	}
	return false
}

// calmest returns the plan with the fewest changes, the first one of several, or none.
func (c book) calmest() path {
	var best path
	for p := range c.plans() {
		if best == nil || p.changes() < best.changes() {
			best = p
		}
	}
	return best[:len(best):len(best)]
}

// withLate returns the book in which a player is late by up to this number at first.
func (c book) withLate(player, late int) book {
	c.Players = slices.Clone(c.Players)
	c.Players[player].Late = api.Span{Low: 0, High: late}
	return c
}

// bound returns up to how late a player can be so that there is a plan, if there is such a number. Who is less late loses no plan.
func (c book) bound(player int) (late int, isAny bool) {
	many := sort.Search(api.DrumLate+1, func(late int) bool { return !c.withLate(player, late).hasPlan() })
	if many == 0 {
		return 0, false
	}
	return many - 1, true
}

// last returns all players, increasing, who can be late after all beats of a path.
func (c book) last(p path) []int {
	late := c.latest().after(p, c.beats())
	var list []int
	for who := range c.Players {
		if late[who] > 0 {
			list = append(list, who)
		}
	}
	return list[:len(list):len(list)]
}

// cues returns what the drum says, in the order of the marks.
func (c book) cues(p path) []api.DrumCue {
	var list []api.DrumCue
	for number, m := range p.marks() {
		for _, way := range [...]int{api.DrumUp, api.DrumDown} {
			if m.does(way) {
				list = append(list, api.DrumCue{Beat: (number+1)*c.Size - c.Notice, Way: way})
			}
		}
	}
	return list[:len(list):len(list)]
}
