package kernel

import (
	"slices"

	"saron/api"
)

// kernels are all kernels that fit: of each pair, the tones that it can have. No pair depends on another one, so each of them goes with each one of the others.
type kernels [][]pair

func (l listener) kernels() kernels {
	var all kernels
	for number := range l.Length / 2 {
		all = append(all, slices.Collect(l.fitting(number)))
	}
	return all
}

// many returns how many kernels there are; KernelMany, if there are more.
func (k kernels) many() int {
	var from func(number int) int
	from = func(number int) int {
		if number == len(k) {
			return 1
		}
		// The numbers behind it are limited first, so that no product is too great; none are none all the same.
		return least(len(k[number])*from(number+1), api.KernelMany)
	}
	return from(0)
}

// tones returns all tones that a kernel has at a place, increasing.
func (k kernels) tones(place int) []int {
	var list []int
	for _, p := range k[place/len(pair{})] {
		list = append(list, p[place%len(p)])
	}
	slices.Sort(list)
	list = slices.Compact(list)
	return list[:len(list):len(list)]
}

// first returns the first kernel, of which there is one at least.
func (k kernels) first() []int {
	var kernel []int
	for _, pairs := range k {
		kernel = append(kernel, pairs[0][:]...)
	}
	return kernel[:len(kernel):len(kernel)]
}
