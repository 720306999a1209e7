package tune_test

import (
	"math"
	"math/rand/v2"
	"slices"
	"testing"

	"saron/api"
	"saron/tune"
)

// The tests of this file hold the package against a search through all pitches of small sets, which takes each definition of the chapter word by word.

// randomSets calls the test with many small valid sets, always the same ones.
func randomSets(seed uint64, many int, test func(r *rand.Rand, s api.TuneSet)) {
	r := rand.New(rand.NewPCG(seed, 1))
	for many > 0 {
		s := randomSet(r)
		if !hasRing(s) {
			many--
			test(r, s)
		}
	}
}

// randomSet makes a set around true pitches, so that most sets can be in tune. It may have a ring.
func randomSet(r *rand.Rand) api.TuneSet {
	var s api.TuneSet
	var truth []int
	for range 1 + r.IntN(5) {
		pitch := 20 + r.IntN(30)
		truth = append(truth, pitch)
		low := pitch - r.IntN(3)
		s.Heard = append(s.Heard, to(low, max(low, pitch+r.IntN(3)-r.IntN(2))))
	}
	for range r.IntN(3) {
		keys := r.Perm(len(truth))[:1+r.IntN(len(truth))]
		s.Scales = append(s.Scales, api.TuneScale{Keys: keys, Steps: randomSteps(r, keys, truth)})
	}
	if len(truth) > 1 {
		for range r.IntN(4) {
			pair := r.Perm(len(truth))
			if truth[pair[0]] > truth[pair[1]] && r.IntN(8) > 0 {
				pair[0], pair[1] = pair[1], pair[0]
			}
			s.Pairs = append(s.Pairs, [2]int{pair[0], pair[1]})
		}
	}
	low := r.IntN(6)
	s.Beat = to(low, low+r.IntN(25))
	return s
}

func randomSteps(r *rand.Rand, keys, truth []int) []api.Span {
	var steps []api.Span
	for i := 1; i < len(keys); i++ {
		step := 1000 * truth[keys[i]] / truth[keys[i-1]]
		steps = append(steps, to(max(200, step-r.IntN(50)), min(5000, step+1+r.IntN(50))))
	}
	return steps
}

// hasRing tells by counting: a forest has as many parts as it has keys more than joins.
func hasRing(s api.TuneSet) bool {
	part := map[int]int{}
	for key := range s.Heard {
		part[key] = key
	}
	joins := slices.Clone(s.Pairs)
	for _, scale := range s.Scales {
		for i := 1; i < len(scale.Keys); i++ {
			joins = append(joins, [2]int{scale.Keys[i-1], scale.Keys[i]})
		}
	}
	for _, j := range joins {
		from, into := part[j[0]], part[j[1]]
		for key, at := range part {
			if at == from {
				part[key] = into
			}
		}
	}
	parts := map[int]bool{}
	for _, at := range part {
		parts[at] = true
	}
	return len(parts) != len(s.Heard)-len(joins)
}

// holds reports whether pitches are a tuning of the keys that are not left out.
func holds(s api.TuneSet, pitches []int, out []int) bool {
	left := func(key int) bool { return slices.Contains(out, key) }
	for _, scale := range s.Scales {
		for i, step := range scale.Steps {
			one, other := scale.Keys[i], scale.Keys[i+1]
			if left(one) || left(other) {
				continue
			}
			if 1000*pitches[other] < step.Low*pitches[one] || 1000*pitches[other] > step.High*pitches[one] {
				return false
			}
		}
	}
	for _, pair := range s.Pairs {
		if left(pair[0]) || left(pair[1]) {
			continue
		}
		if beat := pitches[pair[1]] - pitches[pair[0]]; beat < s.Beat.Low || beat > s.Beat.High {
			return false
		}
	}
	return true
}

// allRows goes through all pitches within Heard, until the test has enough.
func allRows(s api.TuneSet, test func(pitches []int) bool) {
	var row func(pitches []int) bool
	row = func(pitches []int) bool {
		if len(pitches) == len(s.Heard) {
			return test(pitches)
		}
		for p := s.Heard[len(pitches)].Low; p <= s.Heard[len(pitches)].High; p++ {
			if !row(append(slices.Clone(pitches), p)) {
				return false
			}
		}
		return true
	}
	row(nil)
}

func allTunings(s api.TuneSet) [][]int {
	var list [][]int
	allRows(s, func(pitches []int) bool {
		if holds(s, pitches, nil) {
			list = append(list, pitches)
		}
		return true
	})
	return list
}

func tunableWithout(s api.TuneSet, out []int) bool {
	found := false
	allRows(s, func(pitches []int) bool {
		found = holds(s, pitches, out)
		return !found
	})
	return found
}

// fewest goes through the lists of keys, the shortest ones first.
func fewest(s api.TuneSet) []int {
	var lists [][]int
	for bits := range 1 << len(s.Heard) {
		var list []int
		for key := range s.Heard {
			if bits>>key&1 == 1 {
				list = append(list, key)
			}
		}
		lists = append(lists, list)
	}
	slices.SortFunc(lists, func(a, b []int) int {
		if len(a) != len(b) {
			return len(a) - len(b)
		}
		return slices.Compare(a, b)
	})
	for _, list := range lists {
		if tunableWithout(s, list) {
			return list
		}
	}
	return nil
}

// ends is the span of what a function tells of all tunings.
func ends(tunings [][]int, of func(pitches []int) int) api.Span {
	span := to(math.MaxInt, math.MinInt)
	for _, pitches := range tunings {
		span = to(min(span.Low, of(pitches)), max(span.High, of(pitches)))
	}
	return span
}

// band is the span of all beats of a tuning.
func band(s api.TuneSet, pitches []int) api.Span {
	span := to(math.MaxInt, math.MinInt)
	for _, pair := range s.Pairs {
		beat := pitches[pair[1]] - pitches[pair[0]]
		span = to(min(span.Low, beat), max(span.High, beat))
	}
	return span
}

// P1.1: no ring, whatever is joined in which order.
func TestRings(t *testing.T) {
	r := rand.New(rand.NewPCG(9, 1))
	rings := 0
	for range 2000 {
		s := randomSet(r)
		want := api.OK
		if hasRing(s) {
			want = api.ErrTune
			rings++
		}
		if e := tune.Check(s); e != want {
			t.Fatalf("Check of %v: %d, not %d", s, e, want)
		}
	}
	if rings < 200 || rings > 1800 {
		t.Errorf("%d sets of 2000 have a ring", rings)
	}
}

// P1.1, P1.8: a tuning, if there is one; each pitch and each difference is as it is in all tunings, and both ends are so.
func TestAllTunings(t *testing.T) {
	tunable := 0
	randomSets(1, 1500, func(r *rand.Rand, s api.TuneSet) {
		if e := tune.Check(s); e != api.OK {
			t.Fatalf("%v is not valid: %d", s, e)
		}
		tunings := allTunings(s)
		pitches, e := tune.Tuning(s)
		if len(tunings) == 0 {
			one, other := r.IntN(len(s.Heard)), r.IntN(len(s.Heard))
			_, f := tune.Pitch(s, one)
			_, g := tune.Apart(s, one, other)
			if e != api.ErrTuneFalse || f != api.ErrTuneFalse || g != api.ErrTuneFalse {
				t.Fatalf("%v cannot be in tune: %d, %d, %d", s, e, f, g)
			}
			return
		}
		tunable++
		if e != api.OK || len(pitches) != len(s.Heard) || !slices.ContainsFunc(tunings, func(l []int) bool { return slices.Equal(l, pitches) }) {
			t.Fatalf("Tuning of %v: %v, %d", s, pitches, e)
		}
		sameSpans(t, s, tunings)
	})
	if tunable < 200 || tunable > 1400 {
		t.Errorf("%d sets of 1500 can be in tune", tunable)
	}
}

func sameSpans(t *testing.T, s api.TuneSet, tunings [][]int) {
	t.Helper()
	for one := range s.Heard {
		want := ends(tunings, func(l []int) int { return l[one] })
		if got, e := tune.Pitch(s, one); got != want || e != api.OK {
			t.Fatalf("Pitch of %v, %d: %v, %d, not %v", s, one, got, e, want)
		}
		for pitch := s.Heard[one].Low - 1; pitch <= s.Heard[one].High+1; pitch++ {
			want := slices.ContainsFunc(tunings, func(l []int) bool { return l[one] == pitch })
			if got, e := tune.Can(s, one, pitch); got != want || e != api.OK {
				t.Fatalf("Can of %v, %d, %d: %v, %d", s, one, pitch, got, e)
			}
		}
		for other := range s.Heard {
			want := ends(tunings, func(l []int) int { return l[other] - l[one] })
			if got, e := tune.Apart(s, one, other); got != want || e != api.OK {
				t.Fatalf("Apart of %v, %d, %d: %v, %d, not %v", s, one, other, got, e, want)
			}
		}
	}
}

// P1.1: IsTuning, of pitches within Heard and beside it.
func TestAllRows(t *testing.T) {
	randomSets(2, 300, func(r *rand.Rand, s api.TuneSet) {
		for range 20 {
			var pitches []int
			want := true
			for _, h := range s.Heard {
				pitch := h.Low + r.IntN(h.High-h.Low+1)
				if r.IntN(20) == 0 {
					pitch = h.High + 1
				}
				want = want && pitch <= h.High
				pitches = append(pitches, pitch)
			}
			want = want && holds(s, pitches, nil)
			if got, e := tune.IsTuning(s, pitches); got != want || e != api.OK {
				t.Fatalf("IsTuning of %v, %v: %v, %d", s, pitches, got, e)
			}
		}
	})
}

// P1.4, P1.10: the beats of some tuning lie in the band; in no narrower one do those of any.
func TestAllBands(t *testing.T) {
	randomSets(3, 1000, func(_ *rand.Rand, s api.TuneSet) {
		tunings := allTunings(s)
		got, e := tune.Even(s)
		if len(s.Pairs) == 0 || len(tunings) == 0 {
			want := api.ErrTuneFalse
			if len(s.Pairs) == 0 {
				want = api.ErrNone
			}
			if got != (api.Span{}) || e != want {
				t.Fatalf("Even of %v: %v, %d", s, got, e)
			}
			return
		}
		want := band(s, tunings[0])
		for _, pitches := range tunings {
			b := band(s, pitches)
			wide, best := b.High-b.Low, want.High-want.Low
			if wide < best || wide == best && b.Low < want.Low {
				want = b
			}
		}
		if got != want || e != api.OK {
			t.Fatalf("Even of %v: %v, %d, not %v", s, got, e, want)
		}
	})
}

// P1.5, P1.6, P1.12: a set is surely in tune if all rows are tunings; the fewest keys that must be out of tune.
func TestAllKeys(t *testing.T) {
	sure := 0
	randomSets(4, 1000, func(_ *rand.Rand, s api.TuneSet) {
		want := true
		allRows(s, func(pitches []int) bool {
			want = want && holds(s, pitches, nil)
			return want
		})
		if got, e := tune.Sure(s); got != want || e != api.OK {
			t.Fatalf("Sure of %v: %v, %d", s, got, e)
		}
		wrong, e := tune.Wrong(s)
		if list := fewest(s); !slices.Equal(wrong, list) || e != api.OK {
			t.Fatalf("Wrong of %v: %v, %d, not %v", s, wrong, e, list)
		}
		_, e = tune.Tuning(s)
		if (e == api.OK) != (len(wrong) == 0) || want && e != api.OK {
			t.Fatalf("%v: sure is %v, wrong are %v, Tuning returns %d", s, want, wrong, e)
		}
		if want {
			sure++
		}
	})
	if sure < 50 {
		t.Errorf("%d sets of 1000 are sure", sure)
	}
}

// P1.12: keys that nothing joins never make each other wrong.
func TestLooseKeys(t *testing.T) {
	randomSets(5, 200, func(_ *rand.Rand, s api.TuneSet) {
		before, _ := tune.Wrong(s)
		s.Heard = append(s.Heard, to(3990, 4000), to(1, 9))
		if after, e := tune.Wrong(s); !slices.Equal(before, after) || e != api.OK {
			t.Fatalf("Wrong of %v: %v, %d, not %v", s, after, e, before)
		}
		s.Scales, s.Pairs = nil, nil
		if none, e := tune.Wrong(s); len(none) != 0 || e != api.OK {
			t.Fatalf("Wrong of %v, that nothing joins: %v, %d", s, none, e)
		}
	})
}

// P1.9: what a narrower Heard does, and a wider Step, a wider Beat, a join less.
func TestWider(t *testing.T) {
	randomSets(6, 500, func(r *rand.Rand, s api.TuneSet) {
		key := r.IntN(len(s.Heard))
		narrower := copied(s)
		if h := &narrower.Heard[key]; h.Low < h.High {
			h.Low++
		}
		wantAll(t, "a narrower Heard", narrower, s)
		wider := copied(s)
		wider.Beat = to(max(0, s.Beat.Low-1), s.Beat.High+1)
		wantAll(t, "a wider Beat", s, wider)
		if len(s.Pairs) > 0 {
			less := copied(s)
			less.Pairs = less.Pairs[1:]
			wantAll(t, "a pair less", s, less)
		}
		if len(s.Scales) > 0 && len(s.Scales[0].Steps) > 0 {
			wider := copied(s)
			step := &wider.Scales[0].Steps[0]
			*step = to(max(200, step.Low-20), min(5000, step.High+20))
			wantAll(t, "a wider Step", s, wider)
			less := copied(s)
			last := &less.Scales[0]
			last.Steps, last.Keys = last.Steps[1:], last.Keys[1:]
			wantAll(t, "a step less", s, less)
		}
	})
}

func copied(s api.TuneSet) api.TuneSet {
	s.Heard = slices.Clone(s.Heard)
	s.Scales = slices.Clone(s.Scales)
	for i := range s.Scales {
		s.Scales[i].Keys = slices.Clone(s.Scales[i].Keys)
		s.Scales[i].Steps = slices.Clone(s.Scales[i].Steps)
	}
	s.Pairs = slices.Clone(s.Pairs)
	return s
}

// wantAll checks that what can be in the first set can be in the other one.
func wantAll(t *testing.T, name string, s, more api.TuneSet) {
	t.Helper()
	if _, e := tune.Tuning(s); e != api.OK {
		return
	}
	for key, h := range s.Heard {
		for pitch := h.Low; pitch <= h.High; pitch++ {
			was, _ := tune.Can(s, key, pitch)
			if is, e := tune.Can(more, key, pitch); was && !is || e != api.OK {
				t.Fatalf("%s: %v, %v: the key %d cannot be %d any more: %d", name, s, more, key, pitch, e)
			}
		}
	}
}

// P1.11: a difference is the same the other way round; over a third key it is not told narrower.
func TestThirdKey(t *testing.T) {
	randomSets(7, 300, func(_ *rand.Rand, s api.TuneSet) {
		for one := range s.Heard {
			for other := range s.Heard {
				a, e := tune.Apart(s, one, other)
				if e != api.OK {
					return
				}
				if b, _ := tune.Apart(s, other, one); b != to(-a.High, -a.Low) {
					t.Fatalf("Apart of %v, %d, %d: %v, but %v", s, one, other, a, b)
				}
				for third := range s.Heard {
					b, _ := tune.Apart(s, one, third)
					c, _ := tune.Apart(s, third, other)
					if b.Low+c.Low > a.Low || b.High+c.High < a.High {
						t.Fatalf("Apart of %v, %d, %d: %v, over %d %v and %v", s, one, other, a, third, b, c)
					}
				}
			}
		}
	})
}

// P1.2, P1.3: the highest pitches of the greatest set.
func TestHighPitches(t *testing.T) {
	s := eight()
	for key := range s.Heard {
		s.Heard[key] = to(3960, 4000)
	}
	for key := range s.Heard {
		if got, e := tune.Pitch(s, key); got.Low < 3960 || got.High > 4000 || e != api.OK {
			t.Errorf("Pitch of %d: %v, %d", key, got, e)
		}
	}
	if got, e := tune.Apart(s, 3, 4); got != to(-4, 3) || e != api.OK {
		t.Errorf("Apart of a step of a thousandth: %v, %d", got, e)
	}
}

// P1: every function ends without a panic, whatever the set is.
func TestAnything(t *testing.T) {
	r := rand.New(rand.NewPCG(8, 1))
	number := func() int {
		some := []int{math.MinInt, math.MinInt + 1, -1000, -1, 0, 1, 2, 3, 7, 8, 40, 41, 60, 61, 200, 1000, 4000, 5000, 1 << 32, math.MaxInt}
		return some[r.IntN(len(some))]
	}
	numbers := func() []int {
		var list []int
		for range r.IntN(4) {
			list = append(list, number())
		}
		return list
	}
	spans := func() []api.Span {
		var list []api.Span
		for range r.IntN(4) {
			list = append(list, to(number(), number()))
		}
		return list
	}
	for range 20000 {
		s := randomSet(r)
		for range r.IntN(3) {
			switch r.IntN(5) {
			case 0:
				s.Heard = spans()
			case 1:
				s.Scales = []api.TuneScale{{Keys: numbers(), Steps: spans()}}
			case 2:
				s.Pairs = [][2]int{{number(), number()}}
			case 3:
				s.Beat = to(number(), number())
			case 4:
				s.Scales = append(s.Scales, api.TuneScale{Keys: numbers(), Steps: spans()})
			}
		}
		answers(s, number(), number())
		tune.IsTuning(s, numbers())
		tune.Can(s, number(), number())
	}
}
