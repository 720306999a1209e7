package cycle

import "saron/api"

// gongs tells of each gong whether it is one of them.
type gongs [api.CycleGongs]bool

func gongsOf(list []int) gongs {
	var set gongs
	for _, gong := range list {
		set[gong] = true
	}
	return set
}

func (g gongs) without(other gongs) gongs {
	for gong, belongs := range other {
		if belongs {
			g[gong] = false
		}
	}
	return g
}

// list returns the gongs, increasing.
func (g gongs) list() []int {
	var list []int
	for gong, belongs := range g {
		if belongs {
			list = append(list, gong)
		}
	}
	return list[:len(list):len(list)]
}
