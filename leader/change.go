package leader

import (
	"slices"

	"saron/api"
	"saron/night"
	"saron/rasp"
)

func within(s api.Span, number int) bool { return s.Low <= number && number <= s.High }

// key returns the key that the line names.
func (t turn) key() int { return t.who(t.setup.Keys) }

// heardKey returns the key that the line names, which was heard.
func (t turn) heardKey() int {
	key := t.key()
	must(t.isHeard(key), api.ErrLeaderMute)
	return key
}

// next returns the tool that the plan takes for a key, and the strokes at the worst, unless the key may be spoilt.
func (t turn) next(key int) (tool, strokes int, isSafe bool) {
	tool, strokes, e := rasp.Next(t.setup.Shop, t.keys[key].Off, t.keys[key].Metal)
	return tool, strokes, e == api.OK
}

func (t turn) hear() string {
	key, off := t.key(), t.numbers[0]
	must(!t.isHeard(key), api.ErrLeaderTwice)
	must(within(t.setup.Shop.Keys[key].Now, off), api.ErrRange)
	t.keys[key].Heard, t.keys[key].Off = true, off
	_, strokes, isSafe := t.next(key)
	if !isSafe {
		return nothing
	}
	return counted(strokes)
}

func (t turn) stroke() string {
	key, move := t.heardKey(), t.numbers[0]
	number, strokes, isSafe := t.next(key)
	must(isSafe && strokes > 0, api.ErrNone)
	tool := t.setup.Shop.Tools[number]
	must(within(tool.Move, move), api.ErrRange)
	k := &t.keys[key]
	k.Off += move
	k.Metal -= tool.Cost
	k.Strokes++
	return counted(number, k.Off)
}

func (t turn) note() string {
	lost, wrong := t.numbers[0], t.numbers[1]
	must(lost <= api.HeardLost && wrong <= api.HeardLost, api.ErrRange)
	must(len(t.notes) < api.HeardNotes, api.ErrFull)
	t.notes = append(t.notes, api.HeardNote{Tones: t.tones, Lost: lost, Wrong: wrong})
	return counted(len(t.notes))
}

func (t turn) piece() string {
	piece := t.who(t.setup.Pieces)
	must(slices.Contains(t.fitting(), piece), api.ErrLeaderFalse)
	t.played[piece]++
	t.notes = nil
	return counted(t.played[piece])
}

func (t turn) part() string {
	density := t.numbers[0]
	must(density < api.DrumLevels, api.ErrRange)
	must(slices.Contains(t.densities(), density), api.ErrLeaderFalse)
	t.path = append(t.path, density)
	if len(t.path) == t.setup.Drum.Parts {
		t.path = nil
		t.cycles++
	}
	return counted(t.cycles)
}

// nextScene returns the first scene that is not done yet.
func (t turn) nextScene() api.NightScene {
	must(!t.isOver(), api.ErrNone)
	return t.setup.Night.Scenes[len(t.done)]
}

func (t turn) scene() string {
	minutes := t.numbers[0]
	must(within(t.nextScene().Long, minutes), api.ErrRange)
	return t.goOn(minutes)
}

func (t turn) leave() string {
	must(!t.nextScene().Must, api.ErrRange)
	return t.goOn(api.NightLeft)
}

// goOn does the next scene in so many minutes, or leaves it out.
func (t turn) goOn(minutes int) string {
	done := append(t.done[:len(t.done):len(t.done)], minutes)
	_, e := night.Cue(t.setup.Night, done)
	must(e == api.OK, api.ErrLeaderFalse)
	t.done = done
	return counted(len(done))
}

func (t turn) pay() string {
	must(t.isOver(), api.ErrLeaderEarly)
	// A fee that carts and feasts use up leaves all purses as they are.
	if wages := t.wages(); wages != (purses{}) {
		t.got = t.got.plus(wages)
	}
	t.nights++
	t.done = nil
	return counted(t.nights)
}
