package drum

import "saron/api"

// lateness is how late each player is.
type lateness [api.DrumPlayers]int

// truth is one of those in which each number lies at an end of its span: the one end where players become late, the other one where they catch up.
type truth struct {
	book
	late, caught func(s api.Span) int
}

// latest returns the truth in which all players are as late as they can be.
func (c book) latest() truth { return truth{c, high, low} }

// earliest returns the truth in which no player is later than they must be.
func (c book) earliest() truth { return truth{c, low, high} }

// after returns how late all players are after so many beats of a path.
func (t truth) after(p path, beats int) lateness {
	var all lateness
	for who, player := range t.Players {
		all[who] = t.late(player.Late)
	}
	for beat := range beats {
		part, slip := beat/t.Size, t.slip(p, beat)
		for who, player := range t.Players {
			all[who] = most(0, all[who]+slip-t.caught(player.Catch[p[part]]))
		}
	}
	return all
}

// slip returns by how much players slip at the mark before a beat, if there is one.
func (t truth) slip(p path, beat int) int {
	part := beat / t.Size
	if part == 0 || beat%t.Size != 0 || p.mark(part-1).stays() {
		return 0
	}
	return t.late(t.Slip)
}
