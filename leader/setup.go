package leader

import (
	"strings"

	"saron/api"
	"saron/drum"
	"saron/heard"
	"saron/night"
	"saron/rasp"
	"saron/tune"
)

func isValid(s api.LeaderSetup) bool {
	return tune.Check(s.Set) == api.OK && areNames(s.Keys, len(s.Set.Heard)) &&
		rasp.Check(s.Shop) == api.OK && len(s.Shop.Keys) == len(s.Set.Heard) &&
		heard.Check(s.Book) == api.OK && areNames(s.Pieces, len(s.Book.Pieces)) &&
		hasPlan(s.Drum) && canBePlayed(s.Night)
}

func hasPlan(b api.DrumBook) bool {
	_, e := drum.Plan(b)
	return e == api.OK
}

// canBePlayed reports whether some choice of a night fits, and its players are paid.
func canBePlayed(b api.NightBook) bool {
	_, e := night.Leave(b)
	if e != api.OK {
		return false
	}
	_, e = night.Pay(b)
	return e == api.OK
}

// areNames reports whether these are so many names, all of them different.
func areNames(names []string, many int) bool {
	// How long the list is comes first: no longer one is gone through.
	if len(names) != many {
		return false
	}
	find := finder(names)
	for number, name := range names {
		if !isName(name) || find(name) != number {
			return false
		}
	}
	return true
}

func isName(name string) bool {
	if len(name) < 1 || len(name) > api.MaxName || !isLetter(name[0]) {
		return false
	}
	for at := range len(name) {
		if c := name[at]; !isLetter(c) && !isDigit(c) && c != '-' {
			return false
		}
	}
	return true
}

func isLetter(c byte) bool { return 'a' <= c && c <= 'z' }

func isDigit(c byte) bool { return '0' <= c && c <= '9' }

// nobody is the number of a name that is not known.
const nobody = -1

// finder returns what finds the number of a name, the first one of several, or nobody.
func finder(names []string) func(name string) int {
	return func(name string) int {
	known:
		for number, other := range names {
			if len(other) != len(name) {
				continue
			}
			for at := range len(name) {
				if other[at] != name[at] {
					continue known
				}
			}
			return number
		}
		return nobody
	}
}

// copiedSetup returns a setup that shares no memory with another one.
func copiedSetup(s api.LeaderSetup) api.LeaderSetup {
	s.Keys, s.Pieces = copied(s.Keys, renewText), copied(s.Pieces, renewText)
	s.Set.Heard, s.Set.Pairs = copied(s.Set.Heard), copied(s.Set.Pairs)
	s.Set.Scales = copied(s.Set.Scales, func(x *api.TuneScale) {
		x.Keys, x.Steps = copied(x.Keys), copied(x.Steps)
	})
	s.Shop.Tools, s.Shop.Keys = copied(s.Shop.Tools), copied(s.Shop.Keys)
	s.Book.Forms.Forms = copied(s.Book.Forms.Forms, func(x *api.CycleForm) { x.Strokes = copied(x.Strokes, renewNumbers) })
	s.Book.Pieces = copied(s.Book.Pieces, func(x *api.HeardPiece) { x.Tones = copied(x.Tones) })
	s.Drum.Beats = copied(s.Drum.Beats)
	s.Drum.Players = copied(s.Drum.Players, func(x *api.DrumPlayer) { x.Catch = copied(x.Catch) })
	s.Night.Opens, s.Night.Ends, s.Night.Scenes = copied(s.Night.Opens), copied(s.Night.Ends), copied(s.Night.Scenes)
	s.Night.Loads, s.Night.Shares = copied(s.Night.Loads), copied(s.Night.Shares)
	return s
}

// copied returns a new list of the same elements, each of which is renewed: an element that has lists shares them until then.
func copied[E any](list []E, renew ...func(element *E)) []E {
	own := append([]E(nil), list...)
	for number := range own {
		for _, change := range renew {
			change(&own[number])
		}
	}
	return own[:len(own):len(own)]
}

func renewText(text *string) { *text = strings.Clone(*text) }

func renewNumbers(numbers *[]int) { *numbers = copied(*numbers) }

func renewNote(note *api.HeardNote) { note.Tones, note.Gongs = copied(note.Tones), copied(note.Gongs) }
