package cycle

import (
	"cmp"
	"iter"
	"slices"

	"saron/api"
)

// greatGong is the gong that ends each cycle.
const greatGong = 0

// The numbers that have bounds.
const (
	manyGongs = iota
	manyForms
	beatsOfForm
	beatsHeard
	strokesLost
	numberOfBeat
)

var bounds = [...]api.Span{
	manyGongs:    {Low: 1, High: api.CycleGongs},
	manyForms:    {Low: 1, High: api.CycleForms},
	beatsOfForm:  {Low: 2, High: api.CycleBeats},
	beatsHeard:   {Low: 1, High: api.CycleHeard},
	strokesLost:  {Low: 0, High: api.CycleLost},
	numberOfBeat: {Low: 0, High: api.CycleMost},
}

func isValid(b api.CycleBook) bool {
	// The numbers of gongs and forms come first: no longer list is gone through.
	if !within(bounds[manyGongs], b.Gongs) || !within(bounds[manyForms], len(b.Forms)) {
		return false
	}
	for _, f := range b.Forms {
		if !isValidForm(f, b.Gongs) {
			return false
		}
	}
	return true
}

func isValidForm(f api.CycleForm, gongs int) bool {
	if !within(bounds[beatsOfForm], f.Beats) || len(f.Strokes) != gongs {
		return false
	}
	for _, strokes := range f.Strokes {
		if !areIncreasing(strokes, f.Beats) {
			return false
		}
	}
	return slices.Equal(f.Strokes[greatGong], []int{f.Beats - 1})
}

// areIncreasing reports whether numbers from 0 to below a limit are strictly increasing.
func areIncreasing(numbers []int, limit int) bool {
	before := -1
	for _, n := range numbers {
		if n <= before || n >= limit {
			return false
		}
		before = n
	}
	return true
}

// book is a book in the calculation: it knows which gongs are struck at each beat of each form, and in which order spots are told.
type book struct {
	api.CycleBook
	struck  [][]gongs
	compare func(one, other api.CycleSpot) int
}

func newBook(b api.CycleBook) book {
	c := book{CycleBook: b, compare: byFormAndBegin}
	for _, f := range b.Forms {
		beats := make([]gongs, f.Beats)
		for gong, strokes := range f.Strokes {
			for _, beat := range strokes {
				beats[beat][gong] = true
			}
		}
		c.struck = append(c.struck, beats)
	}
	return c
}

func byFormAndBegin(one, other api.CycleSpot) int {
	return cmp.Or(cmp.Compare(one.Form, other.Form), cmp.Compare(one.Begin, other.Begin))
}

func (c book) isForm(form int) bool { return 0 <= form && form < len(c.Forms) }

func (c book) isGong(gong int) bool { return 0 <= gong && gong < c.Gongs }

func (c book) isSpot(spot api.CycleSpot) bool { return slices.Contains(c.spots(), spot) }

// spots returns all spots, in their order.
func (c book) spots() []api.CycleSpot {
	var list []api.CycleSpot
	for form := range len(c.Forms) {
		for begin := range c.Forms[form].Beats {
			list = append(list, api.CycleSpot{Form: form, Begin: begin})
		}
	}
	return list[:len(list):len(list)]
}

// struckAt returns the gongs that are struck at a beat of a form, played over and over.
func (c book) struckAt(form, beat int) gongs { return c.struck[form][beat%c.Forms[form].Beats] }

// passage goes through the beats of a passage, and the gongs that are struck at each of them.
func (c book) passage(spot api.CycleSpot, many int) iter.Seq2[int, gongs] {
	return func(yield func(int, gongs) bool) {
		for beat := range many {
			if !yield(beat, c.struckAt(spot.Form, spot.Begin+beat)) {
				return
			}
		}
	}
}

func (c book) isStruck(form, gong int) bool { return len(c.Forms[form].Strokes[gong]) > 0 }

// next returns the first beat, from one on, at which a gong is struck that is struck in the form at all.
func (c book) next(form, gong, from int) int {
	var seek func(beat int) int
	seek = func(beat int) int {
		if c.struckAt(form, beat)[gong] {
			return beat
		}
		return seek(beat + 1)
	}
	return seek(from)
}

// even returns how far the strokes of a gong are apart, if it is struck and they always are as far apart.
func (c book) even(form, gong int) (apart int, isEven bool) {
	for _, beat := range c.Forms[form].Strokes[gong] {
		gap := c.next(form, gong, beat+1) - beat
		if isEven && gap != apart {
			return 0, false
		}
		apart, isEven = gap, true
	}
	return apart, isEven
}
