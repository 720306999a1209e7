package night

import (
	"iter"
	"sort"

	"saron/api"
)

// course is how a night goes on from what was done: how many minutes each of the first scenes took, or that it was left out.
type course struct {
	book
	done []int
}

// left returns the scenes that were left out.
func (c course) left() choice {
	var left choice
	for scene, minutes := range c.done {
		if minutes == api.NightLeft {
			left = append(left, scene)
		}
	}
	return left[:len(left):len(left)]
}

// can reports whether a choice that goes on can leave out a scene, or play it.
func (c course) can(leave bool, scene int) bool {
	if scene < len(c.done) {
		return leave == (c.done[scene] == api.NightLeft)
	}
	return !leave || !c.Scenes[scene].Must
}

// choices goes through all choices that go on from what was done.
func (c course) choices() iter.Seq[choice] {
	return func(yield func(choice) bool) {
	sets:
		for set := range 1 << len(c.Scenes) {
			var left choice
			for scene := range len(c.Scenes) {
				leave := set>>scene&1 == 1
				if !c.can(leave, scene) {
					continue sets
				}
				if leave {
					left = append(left, scene)
				}
			}
			if !yield(left) {
				return
			}
		}
	}
}

// minutes returns how many minutes each scene of a part takes that is played.
func (c course) minutes(left choice, part, end int) []int {
	var list []int
	tell := wayToTell(end)
	for scene, s := range c.Scenes {
		switch {
		case s.Part != part || left.has(scene):
		case scene < len(c.done):
			list = append(list, c.done[scene])
		default:
			list = append(list, tell(long{s.Long}))
		}
	}
	return list
}

// closes returns when each part ends, if the scenes that are not done take as long as this end says.
func (c course) closes(left choice, end int) times {
	var all times
	now := c.Begin
	for part := range all {
		now = max(now, c.Opens[part]) + sum(c.minutes(left, part, end)...)
		all[part] = now
	}
	return all
}

// spans returns between what lies when each part ends.
func (c course) spans(left choice) []api.Span {
	first, last := c.closes(left, least), c.closes(left, most)
	var list []api.Span
	for part := range api.NightParts {
		list = append(list, api.Span{Low: first[part], High: last[part]})
	}
	return list[:len(list):len(list)]
}

// delays returns by how many minutes each part ends too late at the worst.
func (c course) delays(left choice) times {
	all := c.closes(left, most)
	for part, end := range c.Ends {
		all[part] = max(0, all[part]-end)
	}
	return all
}

func (c course) fits(left choice) bool { return c.delays(left) == times{} }

// search is for the best choice of a course that fits.
type search struct {
	course
	isBetter func(one, other choice) bool
}

func (s search) best() (choice, bool) {
	var best choice
	isAny := false
	for left := range those(s.choices(), s.fits) {
		if !isAny || s.isBetter(left, best) {
			best, isAny = left, true
		}
	}
	return best, isAny
}

// lightest returns the first one of the choices that fit, by their weights, unless none fits.
func (c course) lightest() (choice, bool) { return search{c, c.isLighter}.best() }

// cue returns the scenes that are left out from now on, unless no choice fits.
func (c course) cue() (choice, bool) {
	all, isAny := c.lightest()
	if !isAny {
		return nil, false
	}
	done := len(c.left())
	return all[done:len(all):len(all)], true
}

// play returns the course behind all scenes, each of which is left out if the cue ahead of it says so, and takes so long otherwise, unless no choice fits.
func (c course) play(long []int) (course, bool) {
	for scene, minutes := range long {
		left, isAny := c.cue()
		if !isAny {
			return course{}, false
		}
		if left.has(scene) {
			minutes = api.NightLeft
		}
		c.done = append(c.done, minutes)
	}
	return c, true
}

// later returns the course of a play that begins later.
func (c course) later(minutes int) course {
	c.Begin += minutes
	return c
}

// spare returns by how many minutes the play could begin later, so that a choice of no more than this weight fits. What fits then fits also if it begins earlier.
func (c course) spare(weight int) int {
	return sort.Search(api.NightSpare, func(minutes int) bool {
		left, isAny := c.later(minutes + 1).lightest()
		return !isAny || c.weight(left) > weight
	})
}
