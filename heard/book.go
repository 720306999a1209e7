package heard

import (
	"slices"

	"saron/api"
	"saron/cycle"
)

// greatGong is the great gong of each form.
const greatGong = 0

// The numbers that have bounds.
const (
	manyPieces = iota
	manyStrokes
	manyNotes
	manyTones
	manyListeners
	toneOfStroke
	lostOrWrong
)

var bounds = [...]api.Span{
	manyPieces:    {Low: 1, High: api.HeardPieces},
	manyStrokes:   {Low: 1, High: api.HeardStrokes},
	manyNotes:     {Low: 1, High: api.HeardStrokes},
	manyTones:     {Low: 0, High: api.HeardStrokes},
	manyListeners: {Low: 1, High: api.HeardNotes},
	toneOfStroke:  {Low: 0, High: api.HeardTones - 1},
	lostOrWrong:   {Low: 0, High: api.HeardLost},
}

func isValid(b api.HeardBook) bool {
	if cycle.Check(b.Forms) != api.OK || !within(bounds[manyPieces], len(b.Pieces)) {
		return false
	}
	for _, p := range b.Pieces {
		if p.Form < 0 || p.Form >= len(b.Forms.Forms) || !areTones(bounds[manyStrokes], p.Tones) {
			return false
		}
	}
	return true
}

// areTones reports whether these are tones, and as many as there can be.
func areTones(many api.Span, tones []int) bool {
	// How long a list is comes first: no longer one is gone through.
	return within(many, len(tones)) && areWithin(bounds[toneOfStroke], tones)
}

// book is a book in the calculation.
type book struct{ api.HeardBook }

func (c book) isPiece(number int) bool { return 0 <= number && number < len(c.Pieces) }

func (c book) tones(number int) []int { return c.Pieces[number].Tones }

func (c book) piece(number int) piece {
	p := piece{HeardPiece: c.Pieces[number]}
	start := api.CycleSpot{Form: p.Form}
	passage, _ := cycle.Passage(c.Forms, start, len(p.Tones)) // it has no error: the form is one of the book
	for stroke, gongs := range passage {
		p.gong[stroke] = slices.Contains(gongs, greatGong)
	}
	return p
}

// those returns all pieces of which this is so, increasing.
func (c book) those(isSo func(p piece) bool) []int {
	var list []int
	for number := range len(c.Pieces) {
		if isSo(c.piece(number)) {
			list = append(list, number)
		}
	}
	return list[:len(list):len(list)]
}

// known returns how many strokes of any whole piece can be lost so that it is known, unless two pieces have the same tones.
func (c book) known() (lost int, isAny bool) {
	if len(c.Pieces) == 1 {
		return len(c.tones(0)), true
	}
	// Two pieces are told apart until each of them can lose all that the other one does not share.
	apart := api.HeardStrokes
	for one := range len(c.Pieces) {
		for other := range one {
			x, y := c.tones(one), c.tones(other)
			apart = min(apart, greatest(len(x), len(y))-shared(x, y))
		}
	}
	return apart - 1, apart > 0
}
