package drum

import (
	"iter"

	"saron/api"
)

// path is the density of each part, or of each one of the first parts.
type path []int

// place is a part, and the density that it has.
type place struct{ part, density int }

func (p path) place(part int) place { return place{part, p[part]} }

func (p path) hasDensity(part int) bool { return within(bounds[densityOfPart], p[part]) }

// isNear reports whether the density of a part differs by at most 1 from the one before it, if there is one.
func (p path) isNear(part int) bool { return part == 0 || p.mark(part-1).step() <= 1 }

func (p path) mark(number int) mark { return mark{p[number], p[number+1]} }

// marks goes through all marks, by their numbers.
func (p path) marks() iter.Seq2[int, mark] {
	return func(yield func(int, mark) bool) {
		for number := range len(p) - 1 {
			if !yield(number, p.mark(number)) {
				return
			}
		}
	}
}

// changes returns at how many marks the density changes.
func (p path) changes() int {
	many := 0
	for _, m := range p.marks() {
		if !m.stays() {
			many++
		}
	}
	return many
}

// mark is the densities before and behind a mark.
type mark struct{ before, behind int }

func (m mark) isThere() bool { return true }

func (m mark) falls() bool { return m.behind < m.before }

func (m mark) stays() bool { return m.behind == m.before }

func (m mark) rises() bool { return m.behind > m.before }

func (m mark) step() int { return most(m.behind-m.before, m.before-m.behind) }

// ways returns what a mark does, of each number that can be heard of it, the least one first. One that was lost can do anything.
func ways() [4]func(m mark) bool {
	return [...]func(m mark) bool{
		api.DrumLost - api.DrumLost: mark.isThere,
		api.DrumDown - api.DrumLost: mark.falls,
		api.DrumSame - api.DrumLost: mark.stays,
		api.DrumUp - api.DrumLost:   mark.rises,
	}
}

// does reports whether a mark does what a number says that can be heard of it.
func (m mark) does(heard int) bool { return ways()[heard-api.DrumLost](m) }
