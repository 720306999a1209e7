package kernel

import (
	"iter"
	"slices"
)

// duo is two registers of a scale. They can be the same.
type duo struct {
	scale
	one, other int
}

// duos goes through all pairs of two registers, the lesser number first, in their order.
func (c scale) duos() iter.Seq[duo] {
	return func(yield func(duo) bool) {
		for one := range len(c.Registers) {
			for other := one + 1; other < len(c.Registers); other++ {
				if !yield(duo{c, one, other}) {
					return
				}
			}
		}
	}
}

// mostStrokes is how many strokes a register plays for a pair, at most.
const mostStrokes = 4

// sound is what two registers play for a pair, the one behind the other.
type sound [2 * mostStrokes]int

func (d duo) sound(p pair) sound {
	var s sound
	copy(s[:], slices.Concat(d.strokes(d.one, p), d.strokes(d.other, p)))
	return s
}

// twins returns two pairs for which both registers play the same; without such pairs the two that it returns are equal. As each pair of a part comes from one pair of the kernel alone, there are twins of kernels just if there are twins of pairs.
func (d duo) twins() (first, second pair) {
	heard := map[sound]pair{}
	for p := range d.pairs() {
		s := d.sound(p)
		if before, isHeard := heard[s]; isHeard {
			return before, p
		}
		heard[s] = p
	}
	return pair{}, pair{}
}

// areEnough reports whether each kernel can be won back from the parts of both registers.
func (d duo) areEnough() bool {
	first, second := d.twins()
	return first == second
}

// repeated returns the kernel of which each pair has these tones.
func (c scale) repeated(p pair) []int {
	kernel := slices.Repeat(p[:], c.Length/len(p))
	return kernel[:len(kernel):len(kernel)]
}

// enough returns the registers of all duos from whose parts each kernel can be won back.
func (c scale) enough() [][2]int {
	var list [][2]int
	for d := range c.duos() {
		if d.areEnough() {
			list = append(list, [2]int{d.one, d.other})
		}
	}
	return list[:len(list):len(list)]
}
