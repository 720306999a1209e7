package heard

import "saron/api"

// shared returns how many tones, one after the other, are of both lists, each of which has at most as many as a piece.
func shared(one, other []int) int {
	// many tells, of the tones of one list so far, how many they share with so many first tones of the other list.
	var many [api.HeardStrokes + 1]int
	for _, tone := range one {
		before := many
		for i, t := range other {
			many[i+1] = greatest(before[i+1], many[i])
			if t == tone {
				many[i+1] = greatest(many[i+1], before[i]+1)
			}
		}
	}
	return many[len(other)]
}

// rest is the tones that are left of a whole piece, when so many strokes are lost at most.
type rest struct {
	tones []int
	lost  int
}

func (r rest) canBeOf(p piece) bool {
	return len(p.Tones)-len(r.tones) <= r.lost && shared(p.Tones, r.tones) == len(r.tones)
}
