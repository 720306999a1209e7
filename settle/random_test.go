package settle_test

import (
	"math"
	"math/rand/v2"
	"slices"
	"testing"

	"saron/api"
	"saron/settle"
)

// The tests of this file hold the package against a search through all single pitches of small sets, which takes each definition of the chapter word by word, and the properties of the chapter against sets of up to 40 years.

// randomSets calls the test with many valid sets, always the same ones.
func randomSets(seed uint64, many int, test func(r *rand.Rand, s api.SettleSet)) {
	r := rand.New(rand.NewPCG(seed, 4))
	for range many {
		test(r, randomSet(r))
	}
}

// randomSet makes a set of a few years and narrow spans, around a truth that most looks tell of.
func randomSet(r *rand.Rand) api.SettleSet {
	s := api.SettleSet{Years: 1 + r.IntN(5)}
	for i := range 1 + r.IntN(5) {
		begin := randomSpan(r, 5198+20*i, 5202+20*i, 4)
		k := key(begin, randomSpan(r, -2, 1, 3), r.IntN(16), r.IntN(16))
		k.Fixed = r.IntN(3) == 0
		s.Keys = append(s.Keys, k)
		if i > 0 {
			s.Steps = append(s.Steps, to(r.IntN(18), 22+r.IntN(18)))
		}
	}
	for range r.IntN(4) {
		s.Files = append(s.Files, api.SettleFile{Year: r.IntN(s.Years), Key: r.IntN(len(s.Keys)), By: randomSpan(r, -5, 3, 4)})
	}
	rows := randomRows(r, s)
	for range r.IntN(7) {
		l := randomLook(r, s, rows, 2)
		if r.IntN(5) == 0 {
			l.Read += r.IntN(13) - 6
		}
		s.Looks = append(s.Looks, l)
	}
	return s
}

// randomTight makes a set of a year whose keys are nearly sure, and whose steps are narrow: where one key is tuned, others must be.
func randomTight(r *rand.Rand) api.SettleSet {
	s := api.SettleSet{Years: 1}
	for i := range 2 + r.IntN(6) {
		k := key(randomSpan(r, 5198+20*i, 5202+20*i, 2), only(0), r.IntN(12), r.IntN(12))
		k.Fixed = r.IntN(3) == 0
		s.Keys = append(s.Keys, k)
		if i > 0 {
			s.Steps = append(s.Steps, randomSpan(r, 15, 21, 7))
		}
	}
	return s
}

// randomLong makes a set of many years that has the rows as a truth.
func randomLong(r *rand.Rand) (s api.SettleSet, rows [][]int) {
	s.Years = 1 + r.IntN(40)
	for i := range 1 + r.IntN(7) {
		k := key(randomSpan(r, 6000+500*i, 6010+500*i, 30), randomSpan(r, -8, 6, 3), r.IntN(300), r.IntN(300))
		k.Fixed = r.IntN(3) == 0
		s.Keys = append(s.Keys, k)
	}
	for range r.IntN(7) {
		s.Files = append(s.Files, api.SettleFile{Year: r.IntN(s.Years), Key: r.IntN(len(s.Keys)), By: randomSpan(r, -40, 10, 30)})
	}
	rows = randomRows(r, s)
	for range r.IntN(13) {
		s.Looks = append(s.Looks, randomLook(r, s, rows, 20))
	}
	for i := range len(s.Keys) - 1 {
		step := rows[i+1][s.Years] - rows[i][s.Years] + r.IntN(61) - 30
		s.Steps = append(s.Steps, to(max(0, step-r.IntN(150)), max(0, step)+r.IntN(150)))
	}
	return s, rows
}

func randomSpan(r *rand.Rand, low, high, wide int) api.Span {
	at := low + r.IntN(high-low+1)
	return to(at, at+r.IntN(wide))
}

func randomOf(r *rand.Rand, s api.Span) int { return s.Low + r.IntN(s.High-s.Low+1) }

// randomRows goes from year to year by any number of each Rate and By, whatever the looks say.
func randomRows(r *rand.Rand, s api.SettleSet) [][]int {
	var rows [][]int
	for i, k := range s.Keys {
		row := []int{randomOf(r, k.Begin)}
		for year := range s.Years {
			pitch := row[year] + randomOf(r, k.Rate)
			for _, f := range s.Files {
				if f.Key == i && f.Year == year {
					pitch += randomOf(r, f.By)
				}
			}
			row = append(row, pitch)
		}
		rows = append(rows, row)
	}
	return rows
}

// randomLook is a look that tells of the rows.
func randomLook(r *rand.Rand, s api.SettleSet, rows [][]int, err int) api.SettleLook {
	l := look(r.IntN(s.Years+1), r.IntN(len(s.Keys)), 0, r.IntN(err+1))
	l.Read = randomOf(r, to(rows[l.Key][l.Year]-l.Err, rows[l.Key][l.Year]+l.Err))
	return l
}

// grown returns all pitches that a pitch can be a year later.
func grown(s api.SettleSet, key, year, pitch int) []int {
	list := eachPlus([]int{pitch}, s.Keys[key].Rate)
	for _, f := range s.Files {
		if f.Key == key && f.Year == year {
			list = eachPlus(list, f.By)
		}
	}
	return list
}

func eachPlus(list []int, by api.Span) []int {
	var more []int
	for _, n := range list {
		for b := by.Low; b <= by.High; b++ {
			more = append(more, n+b)
		}
	}
	slices.Sort(more)
	return slices.Compact(more)
}

// isRead reports whether a pitch fits all looks but those left out.
func isRead(s api.SettleSet, key, year, pitch int, out []int) bool {
	for i, l := range s.Looks {
		off := max(pitch-l.Read, l.Read-pitch)
		if l.Key == key && l.Year == year && off > l.Err && !slices.Contains(out, i) {
			return false
		}
	}
	return true
}

// history returns all pitches of a key in all truths without some looks, for each year, found one by one: it has no pitches, if there is no truth.
func history(s api.SettleSet, key int, out []int) [][]int {
	var all [][]int
	now := eachPlus([]int{0}, s.Keys[key].Begin)
	for year := range s.Years + 1 {
		now = slices.DeleteFunc(now, func(p int) bool { return !isRead(s, key, year, p, out) })
		all = append(all, now)
		var next []int
		for _, p := range now {
			next = append(next, grown(s, key, year, p)...)
		}
		slices.Sort(next)
		now = slices.Compact(next)
	}
	for year := s.Years - 1; year >= 0; year-- {
		all[year] = slices.DeleteFunc(all[year], func(p int) bool {
			return !slices.ContainsFunc(grown(s, key, year, p), func(q int) bool { return slices.Contains(all[year+1], q) })
		})
	}
	return all
}

// histories returns the history of each key; the set can be true if all of them have pitches.
func histories(s api.SettleSet, out []int) (all [][][]int, isTrue bool) {
	isTrue = true
	for key := range s.Keys {
		h := history(s, key, out)
		all = append(all, h)
		isTrue = isTrue && len(h[0]) > 0
	}
	return all, isTrue
}

// isTruth takes the definition of a truth word by word.
func isTruth(s api.SettleSet, rows [][]int) bool {
	for key, row := range rows {
		if row[0] < s.Keys[key].Begin.Low || row[0] > s.Keys[key].Begin.High {
			return false
		}
		for year, pitch := range row {
			if !isRead(s, key, year, pitch, nil) || year > 0 && !slices.Contains(grown(s, key, year-1, row[year-1]), pitch) {
				return false
			}
		}
	}
	return true
}

// P4.1: what is a truth.
func TestAllTruths(t *testing.T) {
	count := map[bool]int{}
	randomSets(1, 2000, func(r *rand.Rand, s api.SettleSet) {
		if e := settle.Check(s); e != api.OK {
			t.Fatalf("%v is not valid: %d", s, e)
		}
		rows := randomRows(r, s)
		if h, isTrue := histories(s, nil); isTrue && r.IntN(2) == 0 {
			// Pitches that can be so, if not all of them together.
			for key, years := range h {
				for year, pitches := range years {
					rows[key][year] = pitches[r.IntN(len(pitches))]
				}
			}
		}
		if r.IntN(3) == 0 {
			row := rows[r.IntN(len(rows))]
			row[r.IntN(len(row))] += r.IntN(5) - 2
		}
		want := isTruth(s, rows)
		if is, e := settle.IsTruth(s, rows); is != want || e != api.OK {
			t.Fatalf("IsTruth of %v, %v: %v, %d", s, rows, is, e)
		}
		count[want]++
	})
	if count[true] < 200 || count[false] < 200 {
		t.Errorf("%d rows are a truth, %d are not", count[true], count[false])
	}
}

// P4.2, P4.8: between what each pitch lies, and a row for each end of that.
func TestAllPitches(t *testing.T) {
	count := map[bool]int{}
	randomSets(2, 1500, func(r *rand.Rand, s api.SettleSet) {
		h, isTrue := histories(s, nil)
		count[isTrue]++
		for key := range s.Keys {
			for year := range s.Years + 1 {
				was, e := settle.Was(s, key, year)
				if !isTrue {
					row, f := settle.Past(s, key, year, r.IntN(2) == 0)
					if was != (api.Span{}) || e != api.ErrSettleFalse || len(row) != 0 || f != api.ErrSettleFalse {
						t.Fatalf("%v cannot be true: Was %v, %d, Past %v, %d", s, was, e, row, f)
					}
					continue
				}
				pitches := h[key][year]
				if want := to(slices.Min(pitches), slices.Max(pitches)); was != want || e != api.OK {
					t.Fatalf("Was of %v, %d, %d: %v, %d, not %v", s, key, year, was, e, want)
				}
				wantPast(t, "a random set", s, key, year)
			}
		}
	})
	if count[true] < 300 || count[false] < 300 {
		t.Errorf("%d sets can be true, %d cannot", count[true], count[false])
	}
}

// fewestWrong goes through all lists of looks.
func fewestWrong(s api.SettleSet) []int {
	var best []int
	isMet := false
	for bits := range 1 << len(s.Looks) {
		var out []int
		for i := range s.Looks {
			if bits>>i&1 == 1 {
				out = append(out, i)
			}
		}
		isBetter := !isMet || len(out) < len(best) || len(out) == len(best) && slices.Compare(out, best) < 0
		if !isBetter {
			continue
		}
		if _, isTrue := histories(s, out); isTrue {
			best, isMet = out, true
		}
	}
	return best
}

// P4.3, P4.10: the fewest looks that must be wrong, of several lists the first one.
func TestAllWrong(t *testing.T) {
	var count [13]int
	randomSets(3, 1500, func(r *rand.Rand, s api.SettleSet) {
		for range r.IntN(4) {
			s.Looks = append(s.Looks, look(r.IntN(s.Years+1), r.IntN(len(s.Keys)), 5200+20*r.IntN(len(s.Keys))+r.IntN(9), r.IntN(3)))
		}
		if r.IntN(3) == 0 {
			for i := range s.Looks {
				s.Looks[i].Key, s.Looks[i].Read = 0, s.Keys[0].Begin.Low+r.IntN(10)
			}
		}
		want := fewestWrong(s)
		list, e := settle.Wrong(s)
		if !slices.Equal(list, want) || e != api.OK {
			t.Fatalf("Wrong of %v: %v, %d, not %v", s, list, e, want)
		}
		count[len(want)]++
		s = copied(s)
		for i, look := range slices.Backward(list) {
			s.Looks = slices.Delete(s.Looks, look, look+1)
			isTrue := i == 0
			if _, e := settle.Was(s, 0, 0); (e == api.OK) != isTrue {
				t.Fatalf("%v without all but the first %d of the wrong looks %v: %d", s, i, list, e)
			}
		}
	})
	if count[0] < 100 || count[1] < 100 || count[2] < 100 || count[3] < 50 {
		t.Errorf("so many sets have so many wrong looks: %v", count)
	}
}

// option is what a key can be after a tuning: any of some pitches, if it stays as it is, or one, if it is tuned.
type option struct {
	pitches []int
	tuned   int
}

// options returns all options of a key that now has one of these pitches.
func options(k api.SettleKey, now []int) []option {
	list := []option{{pitches: now}}
	for pitch := slices.Min(now) - k.Down; pitch <= slices.Max(now)+k.Up && !k.Fixed; pitch++ {
		if isReached(k, now, pitch) {
			list = append(list, option{[]int{pitch}, 1})
		}
	}
	return list
}

func isReached(k api.SettleKey, now []int, pitch int) bool {
	for _, p := range now {
		if p-pitch > k.Down || pitch-p > k.Up {
			return false
		}
	}
	return true
}

func fits(step api.Span, lower, higher []int) bool {
	for _, p := range lower {
		for _, q := range higher {
			if q-p < step.Low || q-p > step.High {
				return false
			}
		}
	}
	return true
}

// fewestTuned returns how many keys are tuned at least, from one key to another one, or -1 if no tuning does.
func fewestTuned(s api.SettleSet, h [][][]int, first, last int) int {
	const no = math.MaxInt / 2
	var before []option
	var costs []int
	for key := first; key <= last; key++ {
		now := options(s.Keys[key], h[key][s.Years])
		next := slices.Repeat([]int{no}, len(now))
		for i, o := range now {
			if key == first {
				next[i] = o.tuned
			}
			for j, b := range before {
				if costs[j]+o.tuned < next[i] && fits(s.Steps[key-1], b.pitches, o.pitches) {
					next[i] = costs[j] + o.tuned
				}
			}
		}
		before, costs = now, next
	}
	if many := slices.Min(costs); many < no {
		return many
	}
	return -1
}

// P4.4: the years in which a set surely is in tune.
func TestAllTuned(t *testing.T) {
	some := 0
	randomSets(4, 2000, func(_ *rand.Rand, s api.SettleSet) {
		h, isTrue := histories(s, nil)
		if !isTrue {
			return
		}
		var want []int
		for year := range s.Years + 1 {
			is := true
			for i, step := range s.Steps {
				is = is && fits(step, h[i][year], h[i+1][year])
			}
			if is {
				want = append(want, year)
			}
		}
		if list, e := settle.Tuned(s); !slices.Equal(list, want) || e != api.OK {
			t.Fatalf("Tuned of %v: %v, %d, not %v", s, list, e, want)
		}
		if len(want) > 0 && len(want) <= s.Years {
			some++
		}
	})
	if some < 100 {
		t.Errorf("%d sets of 2000 are in tune in some years, but not in all", some)
	}
}

// P4.5: each tuning.
func TestAllDoes(t *testing.T) {
	count := map[bool]int{}
	randomSets(5, 3000, func(r *rand.Rand, s api.SettleSet) {
		h, isTrue := histories(s, nil)
		var tuning []int
		var after [][]int
		want := isTrue
		for key, k := range s.Keys {
			pitch := -1
			if r.IntN(2) == 0 && (!k.Fixed || r.IntN(8) == 0) {
				pitch = 5200 + 20*key + r.IntN(21) - 10
			}
			tuning = append(tuning, pitch)
			if !isTrue {
				continue
			}
			now := h[key][s.Years]
			if pitch >= 0 {
				want = want && !k.Fixed && isReached(k, now, pitch)
				now = []int{pitch}
			}
			after = append(after, now)
		}
		for i := range len(after) - 1 {
			want = want && fits(s.Steps[i], after[i], after[i+1])
		}
		e := api.OK
		if !isTrue {
			e = api.ErrSettleFalse
		}
		if does, f := settle.Does(s, tuning); does != want || f != e {
			t.Fatalf("Does of %v, %v: %v, %d, not %v, %d", s, tuning, does, f, want, e)
		}
		count[want && tunedKeys(tuning) > 0 && len(tuning) > 1]++
	})
	if count[true] < 100 || count[false] < 100 {
		t.Errorf("%d tunings do, %d do not", count[true], count[false])
	}
}

// P4.5, P4.6, P4.11, P4.13: a tuning of as few keys as any, or the part that cannot be helped.
func TestAllTunings(t *testing.T) {
	var fewest, parts [7]int
	randomSets(6, 4000, func(r *rand.Rand, s api.SettleSet) {
		if r.IntN(4) > 0 {
			s = randomTight(r)
		}
		h, isTrue := histories(s, nil)
		tuning, e := settle.Tune(s)
		first, last, f := settle.Torn(s)
		if !isTrue {
			if len(tuning) != 0 || e != api.ErrSettleFalse || first != 0 || last != 0 || f != api.ErrSettleFalse {
				t.Fatalf("%v cannot be true: Tune %v, %d, Torn %d, %d, %d", s, tuning, e, first, last, f)
			}
			return
		}
		many := fewestTuned(s, h, 0, len(s.Keys)-1)
		wantTune(t, "a random set", s, many)
		if many >= 0 {
			fewest[many]++
			if f != api.ErrNone || first != 0 || last != 0 {
				t.Fatalf("Torn of %v: %d, %d, %d, but %v does", s, first, last, f, tuning)
			}
			return
		}
		wantFirst, wantLast := tornPart(s, h)
		parts[wantLast-wantFirst]++
		if first != wantFirst || last != wantLast || f != api.OK {
			t.Fatalf("Torn of %v: %d, %d, %d, not %d, %d", s, first, last, f, wantFirst, wantLast)
		}
	})
	if slices.Min(fewest[:5]) < 10 || slices.Min(parts[1:4]) < 10 {
		t.Errorf("so many sets take so many keys: %v; parts of so many steps are torn: %v", fewest, parts)
	}
}

// tornPart goes through all neighbours, of which some are torn.
func tornPart(s api.SettleSet, h [][][]int) (first, last int) {
	for more := range s.Keys {
		for first := range len(s.Keys) - more {
			if fewestTuned(s, h, first, first+more) < 0 {
				return first, first + more
			}
		}
	}
	return -1, -1
}

// P4.2, P4.8, P4.11: whatever the pitches truly are, they lie between what is told, and a tuning that is told does for them.
func TestTrueRows(t *testing.T) {
	r := rand.New(rand.NewPCG(7, 4))
	tuned := 0
	for range 300 {
		s, rows := randomLong(r)
		if is, e := settle.IsTruth(s, rows); !is || e != api.OK {
			t.Fatalf("IsTruth of %v, %v: %v, %d", s, rows, is, e)
		}
		for key, row := range rows {
			for year, pitch := range row {
				if was, e := settle.Was(s, key, year); pitch < was.Low || pitch > was.High || e != api.OK {
					t.Fatalf("Was of %v, %d, %d: %v, %d, but it was %d", s, key, year, was, e, pitch)
				}
			}
			wantPast(t, "a set of years", s, key, r.IntN(s.Years+1))
		}
		tuning, e := settle.Tune(s)
		if e != api.OK {
			continue
		}
		if tunedKeys(tuning) > 0 {
			tuned++
		}
		wantHelped(t, s, rows, tuning)
	}
	if tuned < 30 {
		t.Errorf("%d sets of 300 are helped by a tuning", tuned)
	}
}

// wantHelped checks that a tuning does for these pitches.
func wantHelped(t *testing.T, s api.SettleSet, rows [][]int, tuning []int) {
	t.Helper()
	var after []int
	for key, k := range s.Keys {
		now := rows[key][s.Years]
		if p := tuning[key]; p >= 0 {
			if k.Fixed || now-p > k.Down || p-now > k.Up {
				t.Fatalf("the key %d of %v, %d now, is tuned to %d", key, s, now, p)
			}
			now = p
		}
		after = append(after, now)
	}
	for i, step := range s.Steps {
		if d := after[i+1] - after[i]; d < step.Low || d > step.High {
			t.Fatalf("the step %d of %v is %d, tuned by %v", i, s, d, tuning)
		}
	}
}

// P4.8: from a year to the next one what is told grows by no more than rates and files let it.
func TestGrowth(t *testing.T) {
	r := rand.New(rand.NewPCG(8, 4))
	for range 100 {
		s, _ := randomLong(r)
		for key, k := range s.Keys {
			for year := range s.Years {
				by := k.Rate
				for _, f := range s.Files {
					if f.Key == key && f.Year == year {
						by = to(by.Low+f.By.Low, by.High+f.By.High)
					}
				}
				was, _ := settle.Was(s, key, year)
				next, _ := settle.Was(s, key, year+1)
				low, high := next.Low-was.Low, next.High-was.High
				if low < by.Low || low > by.High || high < by.Low || high > by.High {
					t.Fatalf("the key %d of %v in the year %d: %v, then %v", key, s, year, was, next)
				}
			}
		}
	}
}

// wantNarrower checks that what is told of the narrower set lies in what is told of the wider one, for some keys; these are all the same, if it is not said that they may be narrower.
func wantNarrower(t *testing.T, name string, narrow, wide api.SettleSet, mayChange func(key int) bool) (changed int) {
	t.Helper()
	for key := range wide.Keys {
		for year := range wide.Years + 1 {
			one, e := settle.Was(narrow, key, year)
			other, f := settle.Was(wide, key, year)
			if e != api.OK || f != api.OK || one.Low < other.Low || one.High > other.High || one != other && !mayChange(key) {
				t.Fatalf("%s: the key %d in the year %d was %v, %d, then %v, %d; %v and %v", name, key, year, one, e, other, f, narrow, wide)
			}
			if one != other {
				changed++
			}
		}
	}
	return changed
}

// P4.9: a look more never widens what is told, and says nothing of other keys; wider spans never narrow it; the order of looks changes nothing.
func TestWider(t *testing.T) {
	r := rand.New(rand.NewPCG(9, 4))
	changed := map[string]int{}
	for range 60 {
		s, rows := randomLong(r)
		l := randomLook(r, s, rows, 5)
		more := copied(s)
		more.Looks = slices.Insert(more.Looks[:min(len(s.Looks), 11)], 0, l)
		fewer := copied(more)
		fewer.Looks = fewer.Looks[1:]
		changed["look"] += wantNarrower(t, "a look more", more, fewer, func(key int) bool { return key == l.Key })

		key := r.IntN(len(s.Keys))
		mayChange := func(k int) bool { return k == key }
		wide := copied(s)
		rate := &wide.Keys[key].Rate
		*rate = to(rate.Low-r.IntN(3), rate.High+r.IntN(3))
		changed["rate"] += wantNarrower(t, "a wider Rate", s, wide, mayChange)
		wide = copied(s)
		begin := &wide.Keys[key].Begin
		*begin = to(begin.Low-r.IntN(9), begin.High+r.IntN(9))
		changed["begin"] += wantNarrower(t, "a wider Begin", s, wide, mayChange)
		if len(s.Files) > 0 {
			wide = copied(s)
			f := &wide.Files[r.IntN(len(s.Files))]
			f.By = to(f.By.Low-r.IntN(9), f.By.High+r.IntN(9))
			changed["by"] += wantNarrower(t, "a wider By", s, wide, func(k int) bool { return k == f.Key })
		}
		if len(s.Looks) > 0 {
			wide = copied(s)
			l := &wide.Looks[r.IntN(len(s.Looks))]
			l.Err += r.IntN(9)
			changed["err"] += wantNarrower(t, "a wider Err", s, wide, func(k int) bool { return k == l.Key })
		}
		turned := copied(s)
		r.Shuffle(len(s.Looks), func(i, k int) { turned.Looks[i], turned.Looks[k] = turned.Looks[k], turned.Looks[i] })
		wantNarrower(t, "the looks in another order", turned, s, func(int) bool { return false })
	}
	for _, name := range []string{"look", "rate", "begin", "by", "err"} {
		if changed[name] < 50 {
			t.Errorf("a wider set changes %d spans only: %s", changed[name], name)
		}
	}
}

// P4.10: without the looks that are told a set can be true, without fewer it cannot: of many years.
func TestLongWrong(t *testing.T) {
	r := rand.New(rand.NewPCG(10, 4))
	count := 0
	for range 60 {
		s, _ := randomLong(r)
		for i := range s.Looks {
			if r.IntN(3) == 0 {
				s.Looks[i].Read += r.IntN(401) - 200
			}
		}
		list, e := settle.Wrong(s)
		if e != api.OK || !slices.IsSorted(list) {
			t.Fatalf("Wrong of %v: %v, %d", s, list, e)
		}
		for bits := range 1 << len(s.Looks) {
			var out []int
			less := copied(s)
			less.Looks = nil
			for i, l := range s.Looks {
				if bits>>i&1 == 1 {
					out = append(out, i)
				} else {
					less.Looks = append(less.Looks, l)
				}
			}
			if len(out) > len(list) || len(out) == len(list) && slices.Compare(out, list) > 0 {
				continue
			}
			if _, e := settle.Was(less, 0, 0); (e == api.OK) != slices.Equal(out, list) {
				t.Fatalf("%v without the looks %v: %d, but Wrong says %v", s, out, e, list)
			}
		}
		if len(list) > 1 {
			count++
		}
	}
	if count < 15 {
		t.Errorf("%d sets of 60 have several wrong looks", count)
	}
}

// keysToTune returns how many keys Tune tunes, or more than there are, if no tuning does.
func keysToTune(t *testing.T, s api.SettleSet) int {
	t.Helper()
	tuning, e := settle.Tune(s)
	switch e {
	case api.OK:
		return tunedKeys(tuning)
	case api.ErrNone:
		return len(s.Keys) + 1
	}
	t.Fatalf("Tune of %v: %v, %d", s, tuning, e)
	return 0
}

// P4.12: a set that surely is in tune needs no tuning; with a wider Step, a greater Down or Up, or a key that is no longer Fixed no more keys must be tuned.
func TestEasier(t *testing.T) {
	r := rand.New(rand.NewPCG(11, 4))
	inTune, fewer := 0, 0
	for range 1500 {
		s, _ := randomLong(r)
		many := keysToTune(t, s)
		years, e := settle.Tuned(s)
		isTuned := slices.Contains(years, s.Years)
		if e != api.OK || isTuned != (many == 0) {
			t.Fatalf("%v is in tune in the years %v, %d; %d keys are tuned", s, years, e, many)
		}
		if isTuned && len(s.Keys) > 1 {
			inTune++
		}
		easier := copied(s)
		k := &easier.Keys[r.IntN(len(s.Keys))]
		switch r.IntN(4) {
		case 0:
			k.Fixed = false
		case 1:
			k.Down += r.IntN(100)
		case 2:
			k.Up += r.IntN(100)
		case 3:
			for i, step := range s.Steps {
				easier.Steps[i] = to(max(0, step.Low-r.IntN(50)), step.High+r.IntN(50))
			}
		}
		switch after := keysToTune(t, easier); {
		case after > many:
			t.Fatalf("%d keys of %v are tuned, %d of %v", many, s, after, easier)
		case after < many:
			fewer++
		}
	}
	if inTune < 50 || fewer < 50 {
		t.Errorf("%d sets of 1500 are in tune, %d take fewer keys when it is easier", inTune, fewer)
	}
}

// neighbours returns the set of some neighbours alone.
func neighbours(s api.SettleSet, first, last int) api.SettleSet {
	p := api.SettleSet{Years: s.Years, Keys: s.Keys[first : last+1], Steps: s.Steps[first:last]}
	for _, f := range s.Files {
		if f.Key >= first && f.Key <= last {
			f.Key -= first
			p.Files = append(p.Files, f)
		}
	}
	for _, l := range s.Looks {
		if l.Key >= first && l.Key <= last {
			l.Key -= first
			p.Looks = append(p.Looks, l)
		}
	}
	return p
}

// P4.13: of the neighbours that are told no tuning does, of any fewer of them some does; no fewer neighbours are torn, nor as many that come first.
func TestPart(t *testing.T) {
	r := rand.New(rand.NewPCG(12, 4))
	var count [7]int
	for range 2500 {
		s, _ := randomLong(r)
		if r.IntN(2) == 0 {
			s = randomTight(r)
		}
		first, last, e := settle.Torn(s)
		if isTorn := keysToTune(t, s) > len(s.Keys); isTorn != (e == api.OK) || !isTorn && e != api.ErrNone {
			t.Fatalf("Torn of %v: %d, %d, %d", s, first, last, e)
		}
		if e != api.OK {
			continue
		}
		count[last-first]++
		for one := range s.Keys {
			for other := one; other < len(s.Keys); other++ {
				p := neighbours(s, one, other)
				many := keysToTune(t, p)
				isTorn := many > len(p.Keys)
				isAhead := other-one < last-first || other-one == last-first && one < first
				if isTorn && isAhead || !isTorn && one == first && other == last {
					t.Fatalf("Torn of %v: %d to %d, but of %d to %d %d keys are tuned", s, first, last, one, other, many)
				}
			}
		}
	}
	if slices.Min(count[1:4]) < 10 {
		t.Errorf("so many sets have torn parts of so many steps: %v", count)
	}
}

// P1: every function ends without a panic, whatever the set is.
func TestAnything(t *testing.T) {
	r := rand.New(rand.NewPCG(13, 4))
	number := func() int {
		some := []int{math.MinInt, math.MinInt + 1, -201, -50, -2, -1, 0, 1, 2, 3, 5, 40, 50, 200, 500, 1000, 5000, 5200, 20000, 30000, 1 << 32, math.MaxInt}
		return some[r.IntN(len(some))]
	}
	numbers := func() []int {
		var list []int
		for range r.IntN(8) {
			list = append(list, number())
		}
		return list
	}
	change := func(s *api.SettleSet) {
		switch r.IntN(6) {
		case 0:
			s.Years = number()
		case 1:
			s.Keys[r.IntN(len(s.Keys))].Begin = to(number(), number())
		case 2:
			s.Keys[r.IntN(len(s.Keys))] = key(to(number(), number()), to(number(), number()), number(), number())
		case 3:
			s.Steps = append(s.Steps[:r.IntN(len(s.Steps)+1)], to(number(), number()))
		case 4:
			s.Files = append(s.Files, file(number(), number(), number(), number()))
		case 5:
			s.Looks = append(s.Looks, look(number(), number(), number(), number()))
		}
	}
	for range 2000 {
		s := randomSet(r)
		rows := [][]int{numbers(), numbers()}
		answers(s, question{number(), number(), true, rows, numbers()})
		answers(s, question{r.IntN(len(s.Keys)), r.IntN(s.Years + 1), false, rows, slices.Repeat([]int{number()}, len(s.Keys))})
		for range r.IntN(3) {
			change(&s)
		}
		answers(s, question{number(), number(), false, rows, numbers()})
		answers(s, question{r.IntN(5), r.IntN(5), true, rows, numbers()})
	}
}

// P1: the greatest sets are answered, and lists that are far too long.
func TestGreat(t *testing.T) {
	s := great()
	s.Looks = nil
	for i := range 12 {
		s.Looks = append(s.Looks, look(i, 0, 0, i))
	}
	all := []int{0, 1, 2, 3, 4, 5, 6, 7, 8, 9, 10, 11}
	if list, e := settle.Wrong(s); !slices.Equal(list, all) || e != api.OK {
		t.Errorf("Wrong of the greatest set: %v, %d", list, e)
	}
	s.Looks = nil
	if was, e := settle.Was(s, 1, 40); was != to(2800, 22200) || e != api.OK {
		t.Errorf("Was of the greatest set: %v, %d", was, e)
	}
	for i := range 6 {
		s.Files[i] = file(39, 3, -200, 200)
	}
	if was, e := settle.Was(s, 3, 40); was != to(1800, 23200) || e != api.OK {
		t.Errorf("Was of a key with all files: %v, %d", was, e)
	}
	long := make([]int, 1<<20)
	rows := slices.Repeat([][]int{long}, 7)
	wantErrors(t, "long lists", s, question{rows: rows, tuning: long}, [8]api.Errno{5: api.ErrSettleAsk, 6: api.ErrNone})
	s.Looks = make([]api.SettleLook, 1<<20)
	if e := settle.Check(s); e != api.ErrSettle {
		t.Errorf("a million looks: %d", e)
	}
}
