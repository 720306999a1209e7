package rasp

import (
	"iter"

	"saron/api"
)

// never stands for no strokes at all. It is greater than any number of strokes, as each one takes metal: so the greatest of several is never if one is, the least only if all are.
const never = api.RaspMetal + 1

// noTool is taken where a key is fine, or where no tool is left.
const noTool = -1

// state is how far a key is off, and how much of its metal is left.
type state struct{ off, metal int }

// choice is the tool that is taken, and how many strokes there are from it on.
type choice struct{ tool, strokes int }

func (c choice) isFewer(other choice) bool { return c.strokes < other.strokes }

// outcomes are the strokes of all states that a stroke can lead to.
type outcomes []int

func (o outcomes) greatest() int { return greatest(0, o...) }

func (o outcomes) least() int { return least(never, o...) }

// The ways to count strokes.
const (
	worst = iota
	best
)

// way is which of the outcomes of a tool counts, whether all of them must lead to where there are strokes, and when a later tool is taken in the place of an earlier one.
type way struct {
	counts func(outcomes) int
	isSure bool
	takes  func(later, earlier choice) bool
}

func ways() [2]way {
	return [...]way{
		worst: {counts: outcomes.greatest, isSure: true, takes: choice.isFewer},
		best:  {counts: outcomes.least, isSure: false, takes: choice.isFewer},
	}
}

// after goes through all states that a stroke with a tool can lead to, also to those that are too far off.
func (s state) after(tool api.RaspTool) iter.Seq[state] {
	return func(yield func(state) bool) {
		for move := tool.Move.Low; move <= tool.Move.High; move++ {
			if !yield(state{s.off + move, s.metal - tool.Cost}) {
				return
			}
		}
	}
}

// search returns a function that tells the choice in a state, and remembers what it told.
func (c shop) search(w way) func(at state) choice {
	known := map[state]choice{}
	isFine := c.isFine
	var choose func(at state) choice
	choose = func(at state) choice {
		if isFine(at.off) {
			return choice{noTool, 0}
		}
		taken := choice{noTool, never}
		if !isOff(at.off) {
			return taken
		}
		if before, isKnown := known[at]; isKnown {
			return before
		}
	tools:
		for tool := range len(c.Tools) {
			if c.Tools[tool].Cost > at.metal {
				continue
			}
			var all outcomes
			for next := range at.after(c.Tools[tool]) {
				strokes := choose(next).strokes
				if strokes == never && w.isSure {
					continue tools
				}
				all = append(all, strokes)
			}
			// One stroke more than never is not fewer than any.
			later := choice{tool, w.counts(all) + 1}
			if w.takes(later, taken) {
				taken = later
			}
		}
		known[at] = taken
		return taken
	}
	return choose
}

// play follows the plan until the key is fine. It reports whether the strokes can have done these moves, and are as many.
func (c shop) play(at state, moves []int) (tools []int, end int, isPlayed bool) {
	for !c.isFine(at.off) {
		tool := c.atWorst(at).tool
		if len(moves) == 0 || !within(c.Tools[tool].Move, moves[0]) {
			return nil, 0, false
		}
		at = state{at.off + moves[0], at.metal - c.Tools[tool].Cost}
		tools = append(tools, tool)
		moves = moves[1:len(moves):len(moves)]
	}
	if len(moves) > 0 {
		return nil, 0, false
	}
	return tools, at.off, true
}
