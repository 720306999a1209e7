package settle

import (
	"iter"
	"slices"

	"saron/api"
)

// mostGrown is by how much a pitch of any year differs from that of the year 0, at most.
const mostGrown = api.SettleYears*api.SettleRate + api.SettleFiles*api.SettleBy

// course is a key of a set, from year to year.
type course struct {
	set
	key int
}

// looksAt goes through all looks at a key in a year, and their numbers.
func (c set) looksAt(at spot) iter.Seq2[int, api.SettleLook] {
	return func(yield func(int, api.SettleLook) bool) {
		for i, look := range c.Looks {
			if (spot{look.Key, look.Year}) == at && !yield(i, look) {
				return
			}
		}
	}
}

// looks returns the numbers of all looks at the key, increasing.
func (c course) looks() []int {
	var list []int
	for year := range c.Years + 1 {
		for i := range c.looksAt(spot{c.key, year}) {
			list = append(list, i)
		}
	}
	slices.Sort(list)
	return list[:len(list):len(list)]
}

// begun returns between what each pitch lies by Begin, and by the looks of its year but for those that are left out.
func (c course) begun(out []int) spans {
	var all spans
	for year := range c.Years + 1 {
		all[year] = api.Span{Low: api.SettleLow - mostGrown, High: api.SettleHigh + mostGrown}
		for i, look := range c.looksAt(spot{c.key, year}) {
			if !slices.Contains(out, i) {
				all[year] = meet(all[year], api.Span{Low: look.Read - look.Err, High: look.Read + look.Err})
			}
		}
	}
	all[0] = meet(all[0], c.Keys[c.key].Begin)
	return all
}

// growths returns between what lies by how much the pitch grows from each year to the next one.
func (c course) growths() []api.Span {
	var list []api.Span
	for year := range c.Years {
		list = append(list, plus(c.Keys[c.key].Rate, c.filed[spot{c.key, year}]))
	}
	return list[:len(list):len(list)]
}

// pitches returns between what each pitch lies in all truths, if some looks are left out.
func (c course) pitches(out []int) spans { return c.begun(out).settled(c.growths()) }

func (c course) canBeTrueWithout(looks []int) bool { return !c.pitches(looks).contradict(c.Years + 1) }

// isTruth reports whether a row is one of a truth.
func (c course) isTruth(row []int) bool {
	if len(row) != c.Years+1 {
		return false
	}
	all, growths := c.begun(nil), c.growths()
	for year, pitch := range row {
		if !within(all[year], pitch) {
			return false
		}
		if year > 0 && !within(plus(only(row[year-1]), growths[year-1]), pitch) {
			return false
		}
	}
	return true
}
