package forge

import (
	"iter"
	"slices"

	"saron/api"
)

// disc is how thick a disc is at first, and by how much each blow of each striker thins it.
type disc struct {
	thick int
	thins [api.ForgeStrikers]int
}

// discs goes through all discs that the book's strikers can make of it, whatever the looks say.
func (b book) discs() iter.Seq[disc] {
	return func(yield func(disc) bool) {
		var strike func(d disc, striker int) bool
		strike = func(d disc, striker int) bool {
			if striker == len(d.thins) {
				return yield(d)
			}
			for thin := b.Thins[striker].Low; thin <= b.Thins[striker].High; thin++ {
				d.thins[striker] = thin
				if !strike(d, striker+1) {
					return false
				}
			}
			return true
		}
		strike(disc{thick: b.Thick}, 0)
	}
}

// after returns how thick the disc is after some blows.
func (d disc) after(blows int) int {
	var lost [api.ForgeStrikers]int
	for striker, thin := range d.thins {
		lost[striker] = thin * blowsOf(striker, blows)
	}
	return d.thick - sum(lost[:]...)
}

// blowsOf returns how many of the first blows are by a striker.
func blowsOf(striker, blows int) int {
	return (blows + api.ForgeStrikers - 1 - striker) / api.ForgeStrikers
}

// belies reports whether a look cannot be right, if the disc is this one.
func (d disc) belies(look api.ForgeLook) bool {
	right := api.Span{Low: look.Thick - look.Err, High: look.Thick + look.Err}
	return !within(right, d.after(look.Blows))
}

func (b book) allTruths() []disc {
	var list []disc
	for d := range b.discs() {
		if !slices.ContainsFunc(b.Looks, d.belies) {
			list = append(list, d)
		}
	}
	return list
}

// strength returns all numbers of a striker in the truths, increasing.
func (b book) strength(striker int) []int {
	var list []int
	for _, d := range b.truths {
		list = append(list, d.thins[striker])
	}
	slices.Sort(list)
	list = slices.Compact(list)
	return list[:len(list):len(list)]
}

// thick returns the least and the greatest thickness after some blows, of a book that has truths.
func (b book) thick(blows int) api.Span {
	s := only(b.truths[0].after(blows))
	for _, d := range b.truths {
		thick := d.after(blows)
		s = api.Span{Low: min(s.Low, thick), High: max(s.High, thick)}
	}
	return s
}

func (b book) isDone(blows int) bool {
	s := b.thick(blows)
	return within(b.Goal, s.Low) && within(b.Goal, s.High) && s.Low >= b.Crack
}

func (b book) isSound(blows int) bool { return b.thick(blows).Low >= b.Crack }

// wrong returns the shortest list of looks that some disc belies, of several the first one. A list without which a book can be true contains all that some disc belies, so that the shortest ones are just that.
func (b book) wrong() []int {
	var best []int
	isMet := false
	for d := range b.discs() {
		list := b.belied(d)
		if !isMet || isBefore(list, best) {
			best, isMet = list, true
		}
	}
	return best
}

// belied returns the looks that cannot be right, if the disc is this one.
func (b book) belied(d disc) []int {
	var list []int
	for i, look := range b.Looks {
		if d.belies(look) {
			list = append(list, i)
		}
	}
	return list[:len(list):len(list)]
}

// isBefore reports whether a list is shorter than another one, or as long and ahead of it.
func isBefore(list, other []int) bool {
	if len(list) != len(other) {
		return len(list) < len(other)
	}
	return slices.Compare(list, other) < 0
}

// heats returns how few and how many heats some blows take.
func (b book) heats(blows int) api.Span {
	return api.Span{Low: b.heatsAt(blows, b.Cool.Low), High: b.heatsAt(blows, b.Cool.High)}
}

// heatsAt returns how many heats some blows take, if each takes so many degrees. A heat has one blow more than there are such falls from Hot to Least, for the disc is struck once at Hot.
func (b book) heatsAt(blows, degrees int) int {
	inHeat := (b.Hot-b.Least)/degrees + 1
	return (blows + inHeat - 1) / inHeat
}
