package night

import (
	"iter"
	"math/bits"
	"slices"
)

// loads is a set of loads.
type loads int

// list returns the loads, increasing.
func (l loads) list() []int {
	var list []int
	for load := range bits.Len(uint(l)) {
		if l>>load&1 == 1 {
			list = append(list, load)
		}
	}
	return list[:len(list):len(list)]
}

// stand is which loads are still there, and how many carts.
type stand struct {
	loads
	carts int
}

// weighs returns how much loads weigh together.
func (c book) weighs(l loads) int {
	var weights []int
	for _, load := range l.list() {
		weights = append(weights, c.Loads[load])
	}
	return sum(weights...)
}

// cartfuls goes through all sets of these loads that a cart carries and that hold the first one of them, the one of the least number first.
func (c book) cartfuls(l loads) iter.Seq[loads] {
	return func(yield func(loads) bool) {
		first := l & -l
		for full := first; full > 0; full = (full - l) & l {
			holdsFirst := full&first != 0
			if holdsFirst && c.weighs(full) <= c.Cart && !yield(full) {
				return
			}
		}
	}
}

// putOn returns the loads of each one of so many carts, unless there is none for some of them, or too many for all.
func (c book) putOn(carts int) ([][]int, bool) {
	var full [][]int
	isHopeless := map[stand]bool{}
	var put func(s stand) bool
	put = func(s stand) bool {
		if s == (stand{}) {
			return true
		}
		if s.carts == 0 || isHopeless[s] {
			return false
		}
		for cartful := range c.cartfuls(s.loads) {
			if put(stand{s.loads &^ cartful, s.carts - 1}) {
				full = append(full, cartful.list())
				return true
			}
		}
		isHopeless[s] = true
		return false
	}
	if !put(stand{1<<len(c.Loads) - 1, carts}) {
		return nil, false
	}
	// The last cart was noted first.
	slices.Reverse(full)
	return full, true
}

// fewestCarts returns the loads of each cart, on as few as can be, unless a load is too heavy for any.
func (c book) fewestCarts() ([][]int, bool) {
	for carts := range len(c.Loads) + 1 {
		if full, isAny := c.putOn(carts); isAny {
			return full[:len(full):len(full)], true
		}
	}
	return nil, false
}
