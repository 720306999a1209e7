package night

import (
	"iter"
	"slices"

	"saron/api"
)

// choice is the scenes that are left out, increasing.
type choice []int

func (l choice) has(scene int) bool { return slices.Contains(l, scene) }

// those goes through the choices of which this is so.
func those(choices iter.Seq[choice], isSo func(left choice) bool) iter.Seq[choice] {
	return func(yield func(choice) bool) {
		for left := range choices {
			if isSo(left) && !yield(left) {
				return
			}
		}
	}
}

// times is a number of minutes for each part.
type times [api.NightParts]int

// long is between what lies how many minutes a scene takes.
type long struct{ api.Span }

func (l long) least() int { return l.Low }

func (l long) most() int { return l.High }

// Which end of how long scenes take is asked for.
const (
	least = iota
	most
)

// wayToTell returns what tells an end of how long a scene takes.
func wayToTell(end int) func(l long) int {
	ways := [...]func(l long) int{least: long.least, most: long.most}
	return ways[end]
}
