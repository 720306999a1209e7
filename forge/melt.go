package forge

import (
	"iter"

	"saron/api"
)

// lots is a number of bars for each lot: those that it has, that are left of it, or that a melt takes. A lot that the book does not have has none.
type lots [api.ForgeLots]int

// tin is how many thousandths of a bar are tin, in all bars of a melt together.
type tin int

func (t tin) isEnough(asked tin) bool { return t >= asked }

func (t tin) isNotTooMuch(asked tin) bool { return t <= asked }

// side is an end of spans, and how the tin of a melt, if it is all at this end, must lie to that of the book.
type side struct {
	end   func(api.Span) int
	keeps func(has, asked tin) bool
}

func sides() [2]side {
	return [...]side{
		{end: func(s api.Span) int { return s.Low }, keeps: tin.isEnough},
		{end: func(s api.Span) int { return s.High }, keeps: tin.isNotTooMuch},
	}
}

// tinOf returns the tin of a melt whose bars are all at this end of their lots.
func (b book) tinOf(m lots, at side) tin {
	var all [api.ForgeLots]tin
	for i, lot := range b.Lots {
		all[i] = tin(m[i] * at.end(lot.Tin))
	}
	return sum(all[:]...)
}

// melts goes through all melts of so many of these bars, in their order.
func (l lots) melts(many int) iter.Seq[lots] {
	return func(yield func(lots) bool) {
		var take func(m lots, lot, more int) bool
		take = func(m lots, lot, more int) bool {
			if lot == len(l) {
				return more != 0 || m == (lots{}) || yield(m)
			}
			for bars := range min(l[lot], more) + 1 {
				m[lot] = bars
				if !take(m, lot+1, more-bars) {
					return false
				}
			}
			return true
		}
		take(lots{}, 0, many)
	}
}

// rightMelts goes through the melts of so many of these bars that are right, in their order.
func (b book) rightMelts(left lots, many int) iter.Seq[lots] {
	return func(yield func(lots) bool) {
	melts:
		for m := range left.melts(many) {
			for _, at := range sides() {
				if !at.keeps(b.tinOf(m, at), tin(many*at.end(b.Tin))) {
					continue melts
				}
			}
			if !yield(m) {
				return
			}
		}
	}
}

// isRight reports whether a list is one of the right melts. Numbers that no lot has are in none of them.
func (b book) isRight(list []int) bool {
	if len(list) != len(b.Lots) {
		return false
	}
	var asked lots
	copy(asked[:], list)
	for m := range b.rightMelts(b.stock, sum(list...)) {
		if m == asked {
			return true
		}
	}
	return false
}

// cast returns the first right melt of so many bars that takes as few lots as any, or that of no bars.
func (b book) cast(many int) lots {
	var best lots
	for m := range b.rightMelts(b.stock, many) {
		if best == (lots{}) || m.taken() < best.taken() {
			best = m
		}
	}
	return best
}

// rest is how many bars are left of each lot, for how many discs.
type rest struct {
	left  lots
	discs int
}

// casts returns right melts of these sizes that leave of no lot less than nothing, or none.
func (b book) casts(sizes []int) []lots {
	var found []lots
	hopeless := map[rest]bool{}
	var castAll func(at rest, done []lots) bool
	castAll = func(at rest, done []lots) bool {
		if at.discs == 0 {
			found = done
			return true
		}
		if at.left == (lots{}) || hopeless[at] {
			return false
		}
		for m := range b.rightMelts(at.left, sizes[len(done)]) {
			after := rest{left: at.left.less(m), discs: at.discs - 1}
			if castAll(after, append(done[:len(done):len(done)], m)) {
				return true
			}
		}
		hopeless[at] = true
		return false
	}
	castAll(rest{left: b.stock, discs: len(sizes)}, nil)
	return found
}

// taken returns of how many lots there are bars.
func (l lots) taken() int {
	many := 0
	for _, bars := range l {
		if bars > 0 {
			many++
		}
	}
	return many
}

func (l lots) less(m lots) lots {
	for lot, bars := range m {
		l[lot] -= bars
	}
	return l
}

// list returns the bars of the first lots, in memory of its own.
func (l lots) list(many int) []int { return l[:many:many] }
