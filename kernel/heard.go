package kernel

import (
	"iter"

	"saron/api"
)

// listener is what was heard of the parts of a scale, and which strokes of it count.
type listener struct {
	scale
	heard  []api.KernelHeard
	counts func(stroke int) bool
}

func newListener(c scale, heard []api.KernelHeard) listener { return listener{c, heard, isMet} }

// isMet reports whether a stroke, or a rest in its place, was heard.
func isMet(stroke int) bool { return stroke != api.KernelLost }

// isHeard reports whether this can be what was heard.
func (c scale) isHeard(heard []api.KernelHeard) bool {
	if !within(bounds[entriesHeard], len(heard)) {
		return false
	}
	for _, h := range heard {
		if !c.isRegister(h.Register) || len(h.Strokes) != c.Length/2*c.strokesOfPair(h.Register) {
			return false
		}
		for _, stroke := range h.Strokes {
			if !within(bounds[strokeHeard], stroke) {
				return false
			}
		}
	}
	return true
}

// excerpt is what was heard of one pair in one entry.
type excerpt struct {
	listener
	register int
	strokes  []int
}

// excerpts returns what was heard of the pair with this number, in the order of the entries.
func (l listener) excerpts(number int) []excerpt {
	var list []excerpt
	for _, h := range l.heard {
		many := l.strokesOfPair(h.Register)
		from, to := number*many, (number+1)*many
		list = append(list, excerpt{l, h.Register, h.Strokes[from:to:to]})
	}
	return list
}

// wrong returns how many strokes that count are not those that the register plays for a pair.
func (x excerpt) wrong(p pair) int {
	many := 0
	for i, stroke := range x.listener.strokes(x.register, p) {
		if x.counts(x.strokes[i]) && x.strokes[i] != stroke {
			many++
		}
	}
	return many
}

func (x excerpt) fits(p pair) bool { return x.wrong(p) == 0 }

// fitting goes through all tones that the pair with this number can have, in their order.
func (l listener) fitting(number int) iter.Seq[pair] {
	return func(yield func(pair) bool) {
		var tests []func(pair) bool
		for _, x := range l.excerpts(number) {
			tests = append(tests, x.fits)
		}
	pairs:
		for p := range l.pairs() {
			for _, fits := range tests {
				if !fits(p) {
					continue pairs
				}
			}
			if !yield(p) {
				return
			}
		}
	}
}

// least returns how few strokes were heard wrongly. No pair depends on another one, so each is the best there is.
func (l listener) least() int {
	sum := 0
	for number := range l.Length / 2 {
		excerpts := l.excerpts(number)
		var all []int
		for p := range l.pairs() {
			wrong := 0
			for _, x := range excerpts {
				wrong += x.wrong(p)
			}
			all = append(all, wrong)
		}
		sum += least(all[0], all[1:]...)
	}
	return sum
}

// filled returns the strokes of all entries that are the same in all kernels that fit, of which there is one at least; the others are lost.
func (l listener) filled(k kernels) [][]int {
	var all [][]int
	for _, h := range l.heard {
		var part []int
		for _, pairs := range k {
			part = append(part, l.known(h.Register, pairs)...)
		}
		all = append(all, part[:len(part):len(part)])
	}
	return all[:len(all):len(all)]
}

// known returns the strokes that a register plays for each one of these pairs; those that differ are lost.
func (c scale) known(register int, pairs []pair) []int {
	list := c.strokes(register, pairs[0])
	for _, p := range pairs[1:] {
		for i, stroke := range c.strokes(register, p) {
			if stroke != list[i] {
				list[i] = api.KernelLost
			}
		}
	}
	return list
}
