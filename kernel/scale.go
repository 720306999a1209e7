package kernel

import (
	"iter"
	"slices"

	"saron/api"
)

// The numbers that have bounds.
const (
	tonesOfOctave = iota
	octavesOfScale
	lengthOfKernel
	manyRegisters
	ruleOfRegister
	stepOfRegister
	entriesHeard
	strokeHeard
)

var bounds = [...]api.Span{
	tonesOfOctave:  {Low: 2, High: api.KernelTones},
	octavesOfScale: {Low: 1, High: api.KernelOctaves},
	lengthOfKernel: {Low: 2, High: api.KernelLength},
	manyRegisters:  {Low: 1, High: api.KernelRegisters},
	ruleOfRegister: {Low: api.KernelHalf, High: api.KernelNear},
	stepOfRegister: {Low: -api.KernelStep, High: api.KernelStep},
	entriesHeard:   {Low: 1, High: api.KernelRegisters},
	strokeHeard:    {Low: api.KernelLost, High: api.KernelHigh},
}

func isValid(s api.KernelScale) bool {
	if !within(bounds[tonesOfOctave], s.Tones) || !within(bounds[octavesOfScale], s.Octaves) {
		return false
	}
	if !within(bounds[lengthOfKernel], s.Length) || s.Length%2 != 0 {
		return false
	}
	if !within(bounds[manyRegisters], len(s.Registers)) {
		return false
	}
	for _, r := range s.Registers {
		if !isValidRegister(r, s.Tones*s.Octaves) {
			return false
		}
	}
	return true
}

func isValidRegister(r api.KernelRegister, tones int) bool {
	return within(bounds[ruleOfRegister], r.Rule) && within(bounds[stepOfRegister], r.Step) &&
		0 <= r.Low && r.Low <= r.High && r.High < tones
}

// scale is a scale in the calculation: it knows what each register plays for each number that its rule can make.
type scale struct {
	api.KernelScale
	played map[order]int
}

// order is a number that a register is to play.
type order struct{ register, number int }

func newScale(s api.KernelScale) scale {
	c := scale{KernelScale: s, played: map[order]int{}}
	for register, r := range s.Registers {
		for number := -api.KernelStep; number < c.tones()+api.KernelStep; number++ {
			c.played[order{register, number}] = c.toneFor(r, number)
		}
	}
	return c
}

// tones returns how many tones there are.
func (c scale) tones() int { return c.Tones * c.Octaves }

// toneFor returns what a register plays for a number: a tone that it has, or a rest.
func (c scale) toneFor(r api.KernelRegister, number int) int {
	if within(api.Span{Low: r.Low, High: r.High}, number) {
		return number
	}
	for tone := r.Low; tone <= r.High; tone++ {
		if (tone-number)%c.Tones == 0 {
			return tone
		}
	}
	return api.KernelRest
}

func (c scale) isRegister(register int) bool { return 0 <= register && register < len(c.Registers) }

func (c scale) isPlace(place int) bool { return 0 <= place && place < c.Length }

func (c scale) isKernel(kernel []int) bool {
	if len(kernel) != c.Length {
		return false
	}
	for _, tone := range kernel {
		if tone < 0 || tone >= c.tones() {
			return false
		}
	}
	return true
}

// pairs goes through all pairs that there can be, in their order.
func (c scale) pairs() iter.Seq[pair] {
	return func(yield func(pair) bool) {
		for first := range c.tones() {
			for second := range c.tones() {
				if !yield(pair{first, second}) {
					return
				}
			}
		}
	}
}

// strokes returns what a register plays for a pair.
func (c scale) strokes(register int, p pair) []int {
	r := c.Registers[register]
	list := rules()[r.Rule](p, r.Step)
	for i, number := range list {
		list[i] = c.played[order{register, number}]
	}
	return list[:len(list):len(list)]
}

// strokesOfPair returns how many strokes a register plays for each pair.
func (c scale) strokesOfPair(register int) int { return len(c.strokes(register, pair{})) }

// part returns what a register plays for a kernel.
func (c scale) part(register int, kernel []int) []int {
	var part []int
	for two := range slices.Chunk(kernel, len(pair{})) {
		part = append(part, c.strokes(register, pair(two))...)
	}
	return part[:len(part):len(part)]
}
