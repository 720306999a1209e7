package night

import (
	"cmp"
	"slices"

	"saron/api"
)

// The numbers that have bounds.
const (
	minuteOfNight = iota
	manyScenes
	weightOfScene
	minutesOfScene
	coins
	manyLoads
	weightOfLoad
	manyPlayers
	shareOfPlayer
)

var bounds = [...]api.Span{
	minuteOfNight:  {Low: 0, High: api.NightMinute},
	manyScenes:     {Low: 1, High: api.NightScenes},
	weightOfScene:  {Low: 0, High: api.NightWeight},
	minutesOfScene: {Low: 0, High: api.NightLong},
	coins:          {Low: 0, High: api.NightCoin},
	manyLoads:      {Low: 0, High: api.NightLoads},
	weightOfLoad:   {Low: 1, High: api.NightCart},
	manyPlayers:    {Low: 1, High: api.NightPlayer},
	shareOfPlayer:  {Low: 1, High: api.NightShare},
}

func isValid(b api.NightBook) bool {
	// How long a list is comes first: no longer one is gone through.
	if len(b.Opens) != api.NightParts || len(b.Ends) != api.NightParts || !within(bounds[manyScenes], len(b.Scenes)) ||
		!within(bounds[manyLoads], len(b.Loads)) || !within(bounds[manyPlayers], len(b.Shares)) {
		return false
	}
	return within(bounds[minuteOfNight], b.Begin) &&
		areWithin(bounds[minuteOfNight], b.Opens...) && areWithin(bounds[minuteOfNight], b.Ends...) &&
		areScenes(b.Scenes) && areWithin(bounds[coins], b.Fee, b.Cost, b.Feast) &&
		areWithin(bounds[weightOfLoad], b.Loads...) && within(bounds[weightOfLoad], b.Cart) &&
		areWithin(bounds[shareOfPlayer], b.Shares...)
}

func areScenes(scenes []api.NightScene) bool {
	parts := api.Span{Low: 0, High: api.NightParts - 1}
	for _, s := range scenes {
		if !within(parts, s.Part) || !within(bounds[weightOfScene], s.Weight) ||
			s.Long.Low > s.Long.High || !areWithin(bounds[minutesOfScene], s.Long.Low, s.Long.High) {
			return false
		}
		// The next scene is in no part before this one.
		parts.Low = s.Part
	}
	return true
}

// book is a book in the calculation.
type book struct{ api.NightBook }

func (c book) isChoice(left choice) bool {
	before := -1
	for _, scene := range left {
		if scene <= before || scene >= len(c.Scenes) || c.Scenes[scene].Must {
			return false
		}
		before = scene
	}
	return true
}

// isDone reports whether this can be what was done of the first scenes.
func (c book) isDone(done []int) bool {
	if len(done) > len(c.Scenes) {
		return false
	}
	for scene, minutes := range done {
		isLeft := minutes == api.NightLeft && !c.Scenes[scene].Must
		if !isLeft && !c.canTake(scene, minutes) {
			return false
		}
	}
	return true
}

// isPlay reports whether each scene can take as long as this.
func (c book) isPlay(long []int) bool {
	if len(long) != len(c.Scenes) {
		return false
	}
	for scene, minutes := range long {
		if !c.canTake(scene, minutes) {
			return false
		}
	}
	return true
}

func (c book) canTake(scene, minutes int) bool { return within(c.Scenes[scene].Long, minutes) }

// weight returns the weight of a choice.
func (c book) weight(left choice) int {
	var weights []int
	for _, scene := range left {
		weights = append(weights, c.Scenes[scene].Weight)
	}
	return sum(weights...)
}

// isLighter reports whether one choice comes before another one: by its weight, then by how many scenes it leaves out, then by the first scenes.
func (c book) isLighter(one, other choice) bool {
	return cmp.Or(cmp.Compare(c.weight(one), c.weight(other)), cmp.Compare(len(one), len(other)), slices.Compare(one, other)) < 0
}
