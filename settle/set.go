package settle

import (
	"slices"

	"saron/api"
)

// spot is a key in a year.
type spot struct{ key, year int }

// set is a set in the calculation: it knows by how much all files of a key in a year change it together and, if it was asked for it, between what each pitch of each key lies in all truths.
type set struct {
	api.SettleSet
	filed map[spot]api.Span
	was   []spans
}

func newSet(s api.SettleSet) set {
	c := set{SettleSet: s, filed: map[spot]api.Span{}}
	for _, f := range s.Files {
		at := spot{f.Key, f.Year}
		c.filed[at] = plus(c.filed[at], f.By)
	}
	return c
}

// bounded is a span, and between what it must lie.
type bounded struct {
	span      api.Span
	low, high int
}

func (b bounded) lies() bool {
	return b.low <= b.span.Low && b.span.Low <= b.span.High && b.span.High <= b.high
}

func isValid(s api.SettleSet) bool {
	// How many there are comes first: no longer list is gone through.
	numbers := []bounded{
		{only(s.Years), 1, api.SettleYears},
		{only(len(s.Keys)), 1, api.SettleKeys},
		{only(len(s.Steps)), len(s.Keys) - 1, len(s.Keys) - 1},
		{only(len(s.Files)), 0, api.SettleFiles},
		{only(len(s.Looks)), 0, api.SettleLooks},
	}
	return allLie(numbers) && allLie(boundsOfKeys(s)) && allLie(boundsOfChanges(s))
}

func allLie(list []bounded) bool {
	for _, b := range list {
		if !b.lies() {
			return false
		}
	}
	return true
}

func boundsOfKeys(s api.SettleSet) []bounded {
	var list []bounded
	for _, k := range s.Keys {
		list = append(list,
			bounded{k.Begin, api.SettleLow, api.SettleHigh},
			bounded{k.Rate, -api.SettleRate, api.SettleRate},
			bounded{only(k.Down), 0, api.SettleReach},
			bounded{only(k.Up), 0, api.SettleReach})
	}
	for _, step := range s.Steps {
		list = append(list, bounded{step, 0, api.SettleStep})
	}
	return list
}

func boundsOfChanges(s api.SettleSet) []bounded {
	var list []bounded
	for _, f := range s.Files {
		list = append(list,
			bounded{only(f.Year), 0, s.Years - 1},
			bounded{only(f.Key), 0, len(s.Keys) - 1},
			bounded{f.By, -api.SettleBy, api.SettleBy})
	}
	for _, l := range s.Looks {
		list = append(list,
			bounded{only(l.Year), 0, s.Years},
			bounded{only(l.Key), 0, len(s.Keys) - 1},
			bounded{only(l.Read), 0, api.SettleRead},
			bounded{only(l.Err), 0, api.SettleErr})
	}
	return list
}

// isTruth reports whether there is a row for each key, which is one of a truth.
func (c set) isTruth(rows [][]int) bool {
	if len(rows) != len(c.Keys) {
		return false
	}
	for key, row := range rows {
		if !(course{c, key}).isTruth(row) {
			return false
		}
	}
	return true
}

// wrong returns the first of the shortest lists of looks without which the set can be true. What was measured of one key says nothing of another one: so it is those of each key, together.
func (c set) wrong() []int {
	var list []int
	for key := range c.Keys {
		k := course{c, key}
		looks, _ := fewest(k.looks(), k.canBeTrueWithout)
		list = append(list, looks...)
	}
	slices.Sort(list)
	return list[:len(list):len(list)]
}

// yearsInTune returns all years in which the set surely is in tune, increasing, of a set that can be true.
func (c set) yearsInTune() []int {
	var list []int
	for year := range c.Years + 1 {
		if c.whole().pitches(year).keep(c.Steps) {
			list = append(list, year)
		}
	}
	return list[:len(list):len(list)]
}
