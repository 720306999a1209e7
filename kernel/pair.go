package kernel

import "saron/api"

// pair is two tones of a kernel that lie side by side, the first of them at an even place.
type pair [2]int

func (p pair) half(int) []int { return []int{p[1]} }

func (p pair) plain(int) []int { return []int{p[0], p[1]} }

func (p pair) double(int) []int { return []int{p[0], p[0], p[1], p[1]} }

func (p pair) twice(int) []int { return []int{p[0], p[1], p[0], p[1]} }

func (p pair) near(step int) []int { return []int{p[0] + step, p[0], p[1] + step, p[1]} }

// rules returns, of each rule of registers, which numbers it makes of a pair. Each rule makes equally many of all pairs.
func rules() [5]func(p pair, step int) []int {
	return [...]func(p pair, step int) []int{
		api.KernelHalf:   pair.half,
		api.KernelPlain:  pair.plain,
		api.KernelDouble: pair.double,
		api.KernelPair:   pair.twice,
		api.KernelNear:   pair.near,
	}
}
