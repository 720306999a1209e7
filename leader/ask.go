package leader

import (
	"saron/api"
	"saron/heard"
	"saron/night"
	"saron/tune"
)

// nothing is the answer that tells that there is nothing.
const nothing = "-"

func (t turn) tool() string {
	tool, strokes, isSafe := t.next(t.heardKey())
	must(isSafe, api.ErrNone)
	return counted(tool, strokes)
}

func (t turn) off() string {
	key := t.keys[t.heardKey()]
	return counted(key.Off, key.Metal, key.Strokes)
}

func (t turn) pitch() string { return spanned(tune.Pitch(t.setup.Set, t.key())) }

func (t turn) even() string { return spanned(tune.Even(t.setup.Set)) }

// spanned is the answer that tells both ends of a span, unless the set has none.
func spanned(s api.Span, e api.Errno) string {
	must(e == api.OK, api.ErrNone)
	return counted(s.Low, s.High)
}

func (t turn) wrong() string {
	keys, _ := tune.Wrong(t.setup.Set) // it has no error: the set is valid
	return named(t.setup.Keys, keys...)
}

func (t turn) pieces() string { return named(t.setup.Pieces, t.fitting()...) }

func (t turn) read() string {
	piece, number, which := t.who(t.setup.Pieces), t.numbers[0], t.numbers[1]
	must(number < len(t.notes) && which < len(t.notes[number].Tones), api.ErrRange)
	strokes, _ := heard.Strokes(t.setup.Book, piece, t.notes[number], which) // it has no error: all of this is there
	return counted(strokes...)
}

func (t turn) may() string { return counted(t.densities()...) }

func (t turn) cue() string {
	scenes, _ := night.Cue(t.setup.Night, t.done) // it has no error: some choice goes on from what was done, and fits
	return counted(scenes...)
}

func (t turn) spare() string {
	minutes, _ := night.Spare(t.setup.Night) // it has no error: some choice fits
	return counted(minutes)
}

func (t turn) timesPlayed() string { return counted(t.played[t.who(t.setup.Pieces)]) }

func (t turn) coinsGot() string {
	player := t.numbers[0]
	must(player < t.players(), api.ErrRange)
	return counted(t.got[player])
}

func (t turn) manyCycles() string { return counted(t.cycles) }

func (t turn) manyNights() string { return counted(t.nights) }
