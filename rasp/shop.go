package rasp

import "saron/api"

// shop is a shop in the calculation: it tells the choice in each state of a key, at the worst and at best.
type shop struct {
	api.RaspShop
	atWorst, atBest func(at state) choice
}

func newShop(s api.RaspShop) shop {
	c := shop{RaspShop: s}
	all := ways()
	c.atWorst, c.atBest = c.search(all[worst]), c.search(all[best])
	return c
}

// bounded is a span, and between what it must lie.
type bounded struct {
	span      api.Span
	low, high int
}

func (b bounded) lies() bool {
	return b.low <= b.span.Low && b.span.Low <= b.span.High && b.span.High <= b.high
}

func isValid(s api.RaspShop) bool {
	// The numbers of tools and keys come first: no longer list is gone through.
	bounds := []bounded{
		{only(len(s.Tools)), 1, api.RaspTools},
		{only(len(s.Keys)), 0, api.RaspKeys},
		{s.Fine, -api.RaspOff, api.RaspOff},
	}
	return allLie(bounds) && allLie(boundsOfTools(s.Tools)) && allLie(boundsOfKeys(s.Keys))
}

func allLie(list []bounded) bool {
	for _, b := range list {
		if !b.lies() {
			return false
		}
	}
	return true
}

func boundsOfTools(tools []api.RaspTool) []bounded {
	var list []bounded
	for _, t := range tools {
		list = append(list, bounded{t.Move, -api.RaspMove, api.RaspMove}, bounded{only(t.Cost), 1, api.RaspCost})
	}
	return list
}

func boundsOfKeys(keys []api.RaspKey) []bounded {
	var list []bounded
	for _, k := range keys {
		list = append(list, bounded{k.Now, -api.RaspOff, api.RaspOff}, bounded{only(k.Metal), 0, api.RaspMetal})
	}
	return list
}

func isOff(off int) bool { return -api.RaspOff <= off && off <= api.RaspOff }

func isMetal(metal int) bool { return 0 <= metal && metal <= api.RaspMetal }

func hasKey(s api.RaspShop, key int) bool { return 0 <= key && key < len(s.Keys) }

func (c shop) isFine(off int) bool { return within(c.Fine, off) }

// strokesOf returns the strokes of a key at the worst, whatever it is off now.
func (c shop) strokesOf(key int) int {
	k := c.Keys[key]
	var all outcomes
	for off := k.Now.Low; off <= k.Now.High; off++ {
		all = append(all, c.atWorst(state{off, k.Metal}).strokes)
	}
	return all.greatest()
}

// keySet tells of each key whether it belongs to the set.
type keySet [api.RaspKeys]bool

// spoilt returns the keys that may be spoilt.
func (c shop) spoilt() keySet {
	var set keySet
	for key := range len(c.Keys) {
		set[key] = c.strokesOf(key) == never
	}
	return set
}

// list returns the keys of the set, increasing.
func (k keySet) list() []int {
	var list []int
	for key, belongs := range k {
		if belongs {
			list = append(list, key)
		}
	}
	return list[:len(list):len(list)]
}

// toolsOf returns all tools that can move a key just so, increasing.
func (c shop) toolsOf(move int) []int {
	var list []int
	for tool := range len(c.Tools) {
		if within(c.Tools[tool].Move, move) {
			list = append(list, tool)
		}
	}
	return list[:len(list):len(list)]
}
