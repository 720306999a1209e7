package cycle

import (
	"slices"

	"saron/api"
)

// losses are, of each spot at which what was heard can begin, the strokes that were lost then.
type losses map[api.CycleSpot][]api.CycleStroke

// isHeard reports whether this can be what was heard.
func (c book) isHeard(heard [][]int) bool {
	if !within(bounds[beatsHeard], len(heard)) {
		return false
	}
	for _, list := range heard {
		if !areIncreasing(list, c.Gongs) {
			return false
		}
	}
	return true
}

// losses returns all spots at which what was heard can begin, whatever was lost.
func (c book) losses(heard [][]int) losses {
	all := losses{}
spots:
	for _, spot := range c.spots() {
		var lost []api.CycleStroke
		for beat, struck := range c.passage(spot, len(heard)) {
			met := gongsOf(heard[beat])
			if met.without(struck) != (gongs{}) {
				continue spots
			}
			for _, gong := range struck.without(met).list() {
				lost = append(lost, api.CycleStroke{Beat: beat, Gong: gong})
			}
		}
		all[spot] = lost[:len(lost):len(lost)]
	}
	return all
}

// places returns the spots at which no more strokes were lost than these, in the order of the book.
func (c book) places(all losses, most int) []api.CycleSpot {
	var list []api.CycleSpot
	for spot, lost := range all {
		if len(lost) <= most {
			list = append(list, spot)
		}
	}
	slices.SortFunc(list, c.compare)
	return list[:len(list):len(list)]
}

// least returns how few strokes were lost at the spot at which the fewest were, if there is any spot.
func (l losses) least() (fewest int, isAny bool) {
	for _, lost := range l {
		if !isAny || len(lost) < fewest {
			fewest, isAny = len(lost), true
		}
	}
	return fewest, isAny
}
