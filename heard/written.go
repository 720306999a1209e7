package heard

import "saron/api"

// written is what one listener wrote.
type written struct{ api.HeardNote }

func (w written) isValid() bool {
	return areTones(bounds[manyNotes], w.Tones) && areIncreasing(w.Gongs, len(w.Tones)) &&
		within(bounds[lostOrWrong], w.Lost) && within(bounds[lostOrWrong], w.Wrong)
}

func (w written) hasNote(which int) bool { return 0 <= which && which < len(w.Tones) }

// begins returns all strokes of the first note in some reading.
func (w written) begins(p piece) strokes { return reader{p, w, anything}.begins() }

func (w written) fits(p piece) bool { return w.begins(p) != strokes{} }

// strokes returns all strokes of a note in some reading.
func (w written) strokes(p piece, which int) strokes {
	var met strokes
	for stroke := range len(p.Tones) {
		only := reader{p, w, with(meeting{which, stroke})}
		met[stroke] = only.begins() != strokes{}
	}
	return met
}

// least returns the fewest lost strokes with which what was written fits a piece, if it fits with any number of them.
func (w written) least(p piece) (lost int, fits bool) {
	lost = never
	for _, fewest := range (reader{p, w, anything}).fewest() {
		lost = min(lost, fewest)
	}
	return lost, lost < never
}

// listeners are what several listeners wrote.
type listeners []api.HeardNote

func (l listeners) areValid() bool {
	// How long the list is comes first: no longer one is gone through.
	if !within(bounds[manyListeners], len(l)) {
		return false
	}
	for _, note := range l {
		if !(written{note}).isValid() {
			return false
		}
	}
	return true
}

func (l listeners) allFit(p piece) bool {
	for _, note := range l {
		if !(written{note}).fits(p) {
			return false
		}
	}
	return true
}
