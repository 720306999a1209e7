package leader

import (
	"cmp"
	"slices"

	"saron/api"
	"saron/drum"
	"saron/heard"
	"saron/night"
)

// purses is what each player gets, or got.
type purses [api.NightPlayer]int

func (p purses) plus(other purses) purses {
	for player, coins := range other {
		p[player] += coins
	}
	return p
}

// state is what a gang has.
type state struct {
	setup          api.LeaderSetup
	keys           []api.LeaderKey
	notes          []api.HeardNote
	path           []int
	done           []int
	played         []int
	got            purses
	cycles, nights int
	journal        []string
}

func newState(s api.LeaderSetup) state {
	s = copiedSetup(s)
	var keys []api.LeaderKey
	for _, key := range s.Shop.Keys {
		keys = append(keys, newKey(key))
	}
	return state{setup: s, keys: keys, played: make([]int, len(s.Pieces))}
}

// newKey returns a key of which nothing was heard yet.
func newKey(key api.RaspKey) api.LeaderKey { return api.LeaderKey{Metal: key.Metal} }

// isHeard reports whether a key was heard: it is not as a new one any more.
func (s *state) isHeard(key int) bool { return s.keys[key] != newKey(s.setup.Shop.Keys[key]) }

func (s *state) players() int { return len(s.setup.Night.Shares) }

func (s *state) isFull() bool { return len(s.journal) >= api.LeaderJournal }

// fitting returns all pieces that all notes fit, increasing.
func (s *state) fitting() []int {
	if len(s.notes) > 0 {
		pieces, _ := heard.All(s.setup.Book, s.notes) // it has no error: the notes are valid
		return pieces
	}
	var all []int
	for piece := range len(s.setup.Pieces) {
		all = append(all, piece)
	}
	return all[:len(all):len(all)]
}

// densities returns all densities that the next part can have, increasing: those that somebody knows who heard all marks so far, and no others.
func (s *state) densities() []int {
	list, _ := drum.Knows(s.setup.Drum, s.marks(), len(s.path)) // it has no error: some plan begins with the path
	return list
}

// marks returns what can be heard of each mark: what it did, if both of its parts were played.
func (s *state) marks() []int {
	marks := slices.Repeat([]int{api.DrumLost}, s.setup.Drum.Parts-1)
	for mark := range len(s.path) - 1 {
		// A mark changes the density by 1 at most, and DrumUp is 1.
		marks[mark] = cmp.Compare(s.path[mark+1], s.path[mark])
	}
	return marks
}

// isOver reports whether all scenes of the night are done.
func (s *state) isOver() bool { return len(s.done) == len(s.setup.Night.Scenes) }

// wages returns what each player is paid for a night.
func (s *state) wages() purses {
	paid, _ := night.Pay(s.setup.Night) // it has no error: the setup is valid
	var wages purses
	copy(wages[:], paid)
	return wages
}
