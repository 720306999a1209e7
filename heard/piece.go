package heard

import "saron/api"

// strokes tells of each stroke of a piece whether it is one of them.
type strokes [api.HeardStrokes]bool

// list returns the strokes, increasing.
func (s strokes) list() []int {
	var list []int
	for stroke, belongs := range s {
		if belongs {
			list = append(list, stroke)
		}
	}
	return list[:len(list):len(list)]
}

// piece is a piece in the calculation: it knows at which strokes the great gong is struck.
type piece struct {
	api.HeardPiece
	gong strokes
}
