package heard

import (
	"iter"
	"slices"

	"saron/api"
)

// never stands for more strokes than a reading can lose.
const never = api.HeardStrokes

// meeting is a note, and the stroke that it is.
type meeting struct{ note, stroke int }

// step is a meeting in a reading, and how many notes are wrong up to it.
type step struct {
	meeting
	wrong int
}

// start is the step before the first note.
func start() step { return step{meeting{-1, -1}, 0} }

// reader looks for readings of what was written in a piece: for those of which all meetings are looked for.
type reader struct {
	played      piece
	note        written
	isLookedFor func(m meeting) bool
}

func anything(m meeting) bool { return true }

// with looks for the readings in which this is the stroke of this note.
func with(wanted meeting) func(m meeting) bool {
	return func(m meeting) bool { return m == wanted || m.note != wanted.note }
}

// tones are that of a note, and that of its stroke.
type tones struct{ note, stroke int }

func (t tones) areSame() bool { return t.note == t.stroke }

func (t tones) areNeighbours() bool { return t.note == t.stroke+1 || t.note == t.stroke-1 }

// ways returns how the tone of a note can be, by how many notes are wrong with it: just right, and wrong.
func ways() [2]func(t tones) bool {
	return [...]func(t tones) bool{tones.areSame, tones.areNeighbours}
}

func (r reader) tones(m meeting) tones {
	return tones{r.note.Tones[m.note], r.played.Tones[m.stroke]}
}

// isStruck reports whether the great gong is struck, if it was heard with the note.
func (r reader) isStruck(m meeting) bool {
	return r.played.gong[m.stroke] || !slices.Contains(r.note.Gongs, m.note)
}

// steps goes through all steps behind a step, to each stroke that the next note can be.
func (r reader) steps(s step) iter.Seq[step] {
	return func(yield func(step) bool) {
		rules := [...]func(m meeting) bool{r.isLookedFor, r.isStruck}
	strokes:
		for stroke := s.stroke + 1; stroke < len(r.played.Tones); stroke++ {
			next := meeting{s.note + 1, stroke}
			for _, isSo := range rules {
				if !isSo(next) {
					continue strokes
				}
			}
			for more, isSo := range ways() {
				wrong := s.wrong + more
				if wrong <= r.note.Wrong && isSo(r.tones(next)) && !yield(step{next, wrong}) {
					return
				}
			}
		}
	}
}

// fewest returns, of each stroke that the first note can be, how few strokes a reading that begins with it loses, however many may be lost, or never.
func (r reader) fewest() map[int]int {
	known := map[step]int{}
	var read func(s step) int
	read = func(s step) int {
		if s.note == len(r.note.Tones)-1 {
			return 0
		}
		if lost, isKnown := known[s]; isKnown {
			return lost
		}
		lost := never
		for next := range r.steps(s) {
			lost = min(lost, next.stroke-s.stroke-1+read(next))
		}
		known[s] = lost
		return lost
	}
	all := map[int]int{}
	for first := range r.steps(start()) {
		all[first.stroke] = read(first)
	}
	return all
}

// begins returns all strokes with which readings begin that lose no more strokes than may be lost.
func (r reader) begins() strokes {
	var met strokes
	for stroke, lost := range r.fewest() {
		met[stroke] = lost <= r.note.Lost
	}
	return met
}
