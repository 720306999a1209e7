package drum

import "saron/api"

// listener is a book, and what was heard of each mark.
type listener struct {
	book
	heard []int
}

// isHeard reports whether this can be what was heard.
func (c book) isHeard(heard []int) bool {
	return len(heard) == c.Parts-1 && areWithin(bounds[heardOfMark], heard...)
}

// fits reports whether a path does at each mark what was heard of it.
func (l listener) fits(p path) bool {
	for number, m := range p.marks() {
		if !m.does(l.heard[number]) {
			return false
		}
	}
	return true
}

// places returns which densities the parts have in some plan that fits.
func (l listener) places() map[place]bool {
	isAny := map[place]bool{}
	for p := range those(l.plans(), l.fits) {
		for part := range p {
			isAny[p.place(part)] = true
		}
	}
	return isAny
}

// knows returns all densities, increasing, that a part has in some plan that fits; none, if no plan fits.
func (l listener) knows(part int) []int {
	isAny := l.places()
	var list []int
	for density := range api.DrumLevels {
		if isAny[place{part, density}] {
			list = append(list, density)
		}
	}
	return list[:len(list):len(list)]
}
