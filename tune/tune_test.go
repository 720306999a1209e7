package tune_test

import (
	"math"
	"reflect"
	"slices"
	"testing"

	"saron/api"
	"saron/tune"
)

func to(low, high int) api.Span { return api.Span{Low: low, High: high} }

// example is the set of the chapter's examples.
func example() api.TuneSet {
	return api.TuneSet{
		Heard: []api.Span{to(200, 204), to(206, 210), to(240, 243), to(246, 250), to(290, 296), to(300, 310)},
		Scales: []api.TuneScale{
			{Keys: []int{0, 2, 4}, Steps: []api.Span{to(1190, 1210), to(1190, 1230)}},
			{Keys: []int{3, 5}, Steps: []api.Span{to(1230, 1250)}},
		},
		Pairs: [][2]int{{0, 1}, {2, 3}},
		Beat:  to(4, 7),
	}
}

// with returns the set of the examples after a change.
func with(change func(s *api.TuneSet)) api.TuneSet {
	s := example()
	change(&s)
	return s
}

// untunable is the set of the examples with a key that is too high.
func untunable() api.TuneSet {
	return with(func(s *api.TuneSet) { s.Heard[4] = to(300, 301) })
}

// oneStep has two keys and the step between them.
func oneStep(one, other, step api.Span) api.TuneSet {
	return api.TuneSet{
		Heard:  []api.Span{one, other},
		Scales: []api.TuneScale{{Keys: []int{0, 1}, Steps: []api.Span{step}}},
	}
}

// onePair has two keys that beat.
func onePair(lower, higher, beat api.Span) api.TuneSet {
	return api.TuneSet{Heard: []api.Span{lower, higher}, Pairs: [][2]int{{0, 1}}, Beat: beat}
}

// loose has so many keys that nothing joins.
func loose(heard ...api.Span) api.TuneSet { return api.TuneSet{Heard: heard} }

// eight is a set as great as can be: 8 keys, 2 scales and 4 pairs.
func eight() api.TuneSet {
	return api.TuneSet{
		Heard: slices.Repeat([]api.Span{to(1000, 1040)}, 8),
		Scales: []api.TuneScale{
			{Keys: []int{0, 1, 2}, Steps: []api.Span{to(990, 1010), to(200, 5000)}},
			{Keys: []int{3, 4}, Steps: []api.Span{to(999, 1001)}},
		},
		Pairs: [][2]int{{0, 5}, {6, 0}, {3, 7}, {7, 6}},
		Beat:  to(0, 60),
	}
}

func validSets() map[string]api.TuneSet {
	return map[string]api.TuneSet{
		"the example":         example(),
		"a single key":        loose(to(7, 7)),
		"the least pitch":     loose(to(1, 1)),
		"the greatest pitch":  loose(to(4000, 4000)),
		"the widest span":     loose(to(1, 41)),
		"as great as can be":  eight(),
		"a scale of one key":  {Heard: []api.Span{to(5, 6)}, Scales: []api.TuneScale{{Keys: []int{0}}, {Keys: []int{0}}}},
		"the least step":      oneStep(to(10, 10), to(2, 2), to(200, 200)),
		"the greatest step":   oneStep(to(10, 10), to(50, 50), to(5000, 5000)),
		"the widest beat":     onePair(to(5, 6), to(8, 9), to(0, 60)),
		"the greatest beat":   onePair(to(5, 6), to(8, 9), to(60, 60)),
		"a beat without pair": {Heard: []api.Span{to(5, 6)}, Beat: to(3, 60)},
		"a pair that goes down": {
			Heard: []api.Span{to(5, 6), to(1, 2)}, Pairs: [][2]int{{1, 0}}, Beat: to(3, 5),
		},
		"it cannot be in tune": untunable(),
		"two scales that share a key": {
			Heard:  []api.Span{to(10, 10), to(20, 20), to(40, 40)},
			Scales: []api.TuneScale{{Keys: []int{0, 1}, Steps: []api.Span{to(2000, 2000)}}, {Keys: []int{2, 1}, Steps: []api.Span{to(500, 500)}}},
		},
	}
}

func wrongSets() map[string]api.TuneSet {
	return map[string]api.TuneSet{
		"no key":                     {},
		"nine keys":                  loose(slices.Repeat([]api.Span{to(5, 5)}, 9)...),
		"heard at 0":                 loose(to(0, 5)),
		"heard below 0":              loose(to(-5, 5)),
		"heard at 4001":              loose(to(3990, 4001)),
		"heard the other way round":  loose(to(6, 5)),
		"heard too wide":             loose(to(1, 42)),
		"the last key is wrong":      with(func(s *api.TuneSet) { s.Heard[5] = to(0, 0) }),
		"heard from the least":       loose(to(math.MinInt, math.MaxInt)),
		"heard from the greatest":    loose(to(math.MaxInt, math.MinInt)),
		"three scales":               with(func(s *api.TuneSet) { s.Scales = append(s.Scales, api.TuneScale{Keys: []int{5}}) }),
		"a scale without keys":       with(func(s *api.TuneSet) { s.Scales[1] = api.TuneScale{} }),
		"a step without keys":        with(func(s *api.TuneSet) { s.Scales[1] = api.TuneScale{Steps: []api.Span{to(1000, 1000)}} }),
		"a step too few":             with(func(s *api.TuneSet) { s.Scales[0].Steps = s.Scales[0].Steps[:1] }),
		"a step too many":            with(func(s *api.TuneSet) { s.Scales[1].Steps = append(s.Scales[1].Steps, to(1000, 1000)) }),
		"a key twice in a scale":     with(func(s *api.TuneSet) { s.Scales[1].Keys[1] = 3 }),
		"a key that is not, in it":   with(func(s *api.TuneSet) { s.Scales[1].Keys[1] = 6 }),
		"a key below 0 in it":        with(func(s *api.TuneSet) { s.Scales[1].Keys[1] = -1 }),
		"a step below the least":     with(func(s *api.TuneSet) { s.Scales[0].Steps[0] = to(199, 1210) }),
		"a step above the greatest":  with(func(s *api.TuneSet) { s.Scales[0].Steps[1] = to(1190, 5001) }),
		"a step the other way round": with(func(s *api.TuneSet) { s.Scales[0].Steps[1] = to(1230, 1190) }),
		"five pairs": {
			Heard: slices.Repeat([]api.Span{to(5, 5)}, 8), Pairs: [][2]int{{0, 1}, {1, 2}, {2, 3}, {3, 4}, {4, 5}},
		},
		"a pair of one key":          with(func(s *api.TuneSet) { s.Pairs[1] = [2]int{2, 2} }),
		"a pair with no such key":    with(func(s *api.TuneSet) { s.Pairs[1] = [2]int{2, 6} }),
		"a pair with a key below 0":  with(func(s *api.TuneSet) { s.Pairs[1] = [2]int{-1, 2} }),
		"a beat below 0":             with(func(s *api.TuneSet) { s.Beat = to(-1, 7) }),
		"a beat above 60":            with(func(s *api.TuneSet) { s.Beat = to(4, 61) }),
		"a beat the other way round": with(func(s *api.TuneSet) { s.Beat = to(7, 4) }),
		"a wrong beat without pairs": {Heard: []api.Span{to(5, 5)}, Beat: to(0, 61)},
		"a ring of two scales":       with(func(s *api.TuneSet) { s.Scales[1].Keys = []int{4, 0} }),
		"a ring of a step, a pair":   with(func(s *api.TuneSet) { s.Scales[1].Keys = []int{2, 3} }),
		"a ring over others":         with(func(s *api.TuneSet) { s.Pairs = append(s.Pairs, [2]int{1, 5}) }),
		"a pair twice":               with(func(s *api.TuneSet) { s.Pairs = append(s.Pairs, [2]int{0, 1}) }),
		"a pair, and back":           with(func(s *api.TuneSet) { s.Pairs = append(s.Pairs, [2]int{1, 0}) }),
		"a ring of three pairs": {
			Heard: slices.Repeat([]api.Span{to(5, 5)}, 3), Pairs: [][2]int{{0, 1}, {1, 2}, {2, 0}},
		},
	}
}

// answers returns what each function says of a set, and the error of it.
func answers(s api.TuneSet, one, other int) ([]any, []api.Errno) {
	is, e1 := tune.IsTuning(s, make([]int, len(s.Heard)))
	tuning, e2 := tune.Tuning(s)
	pitch, e3 := tune.Pitch(s, one)
	can, e4 := tune.Can(s, one, 242)
	apart, e5 := tune.Apart(s, one, other)
	even, e6 := tune.Even(s)
	sure, e7 := tune.Sure(s)
	wrong, e8 := tune.Wrong(s)
	return []any{is, tuning, pitch, can, apart, even, sure, wrong}, []api.Errno{e1, e2, e3, e4, e5, e6, e7, e8}
}

// wantErrors checks the errors of all functions, and that what comes with an error is zero (R2).
func wantErrors(t *testing.T, name string, s api.TuneSet, one, other int, want []api.Errno) {
	t.Helper()
	results, errors := answers(s, one, other)
	if !slices.Equal(errors, want) {
		t.Errorf("%s: the errors are %v, not %v", name, errors, want)
	}
	for i, r := range results {
		v := reflect.ValueOf(r)
		empty := v.IsZero() || v.Kind() == reflect.Slice && v.Len() == 0
		if errors[i] != api.OK && !empty {
			t.Errorf("%s: the result %d comes with an error: %v", name, i, r)
		}
	}
}

// P1.1: what is valid.
func TestCheck(t *testing.T) {
	for name, s := range validSets() {
		if e := tune.Check(s); e != api.OK {
			t.Errorf("%s: %d", name, e)
		}
	}
	for name, s := range wrongSets() {
		if e := tune.Check(s); e != api.ErrTune {
			t.Errorf("%s: %d", name, e)
		}
	}
}

// P1.1 to P1.4, R1, R2: the error that is named first, and nothing else with it.
func TestErrors(t *testing.T) {
	const bad, ask, none, no = api.ErrTune, api.ErrTuneAsk, api.ErrNone, api.ErrTuneFalse
	for name, s := range wrongSets() {
		wantErrors(t, name, s, -1, 99, []api.Errno{bad, bad, bad, bad, bad, bad, bad, bad})
	}
	for _, key := range []int{-1, 6, math.MinInt, math.MaxInt} {
		wantErrors(t, "no such key", example(), key, 0, []api.Errno{0, 0, ask, ask, ask, 0, 0, 0})
		wantErrors(t, "no such other key", example(), 0, key, []api.Errno{0, 0, 0, 0, ask, 0, 0, 0})
		wantErrors(t, "out of tune, no such key", untunable(), key, 0, []api.Errno{0, no, ask, ask, ask, no, 0, 0})
		wantErrors(t, "out of tune, no such other key", untunable(), 0, key, []api.Errno{0, no, no, no, ask, no, 0, 0})
	}
	wantErrors(t, "out of tune", untunable(), 5, 5, []api.Errno{0, no, no, no, no, no, 0, 0})
	torn := oneStep(to(10, 10), to(30, 30), to(2000, 2000))
	wantErrors(t, "out of tune, no pairs", torn, 0, 1, []api.Errno{0, no, no, no, no, none, 0, 0})
	wantErrors(t, "no pairs", loose(to(5, 6)), 0, 0, []api.Errno{0, 0, 0, 0, 0, none, 0, 0})
	apart := torn
	apart.Heard = append(apart.Heard, to(5, 5))
	wantErrors(t, "a key that nothing joins to those out of tune", apart, 2, 2, []api.Errno{0, no, no, no, no, none, 0, 0})
}

// P1.1: which pitches are a tuning.
func TestIsTuning(t *testing.T) {
	for _, x := range []struct {
		name    string
		s       api.TuneSet
		pitches []int
		want    bool
	}{
		{"the example", example(), []int{202, 206, 242, 246, 292, 305}, true},
		{"201 for 202", example(), []int{201, 206, 242, 246, 292, 305}, true},
		{"209 for 206", example(), []int{202, 209, 242, 246, 292, 305}, true},
		{"204 for 202", example(), []int{204, 206, 242, 246, 292, 305}, false},
		{"a pair at its greatest beat", onePair(to(5, 6), to(8, 9), to(2, 3)), []int{6, 9}, true},
		{"a pair above it", onePair(to(5, 6), to(8, 9), to(2, 3)), []int{5, 9}, false},
		{"a pair at its least beat", onePair(to(5, 6), to(8, 9), to(2, 3)), []int{6, 8}, true},
		{"a pair below it", onePair(to(5, 6), to(8, 9), to(3, 3)), []int{6, 8}, false},
		{"a step at its Low", oneStep(to(10, 10), to(19, 21), to(1950, 2050)), []int{10, 20}, true},
		{"a step just below it", oneStep(to(1000, 1000), to(1499, 1503), to(1501, 1502)), []int{1000, 1500}, false},
		{"a step just at it", oneStep(to(1000, 1000), to(1499, 1503), to(1501, 1502)), []int{1000, 1501}, true},
		{"a step at its High", oneStep(to(1000, 1000), to(1499, 1503), to(1501, 1502)), []int{1000, 1502}, true},
		{"a step just above it", oneStep(to(1000, 1000), to(1499, 1503), to(1501, 1502)), []int{1000, 1503}, false},
		{"below Heard", loose(to(5, 6)), []int{4}, false},
		{"at the Low of Heard", loose(to(5, 6)), []int{5}, true},
		{"at the High of Heard", loose(to(5, 6)), []int{6}, true},
		{"above Heard", loose(to(5, 6)), []int{7}, false},
		{"far above", example(), []int{math.MaxInt, 206, 242, 246, 292, 305}, false},
		{"far below", example(), []int{202, 206, 242, 246, 292, math.MinInt}, false},
		{"a key too few", example(), []int{202, 206, 242, 246, 292}, false},
		{"a key too many", example(), []int{202, 206, 242, 246, 292, 305, 305}, false},
		{"nil", example(), nil, false},
		{"empty", example(), []int{}, false},
	} {
		if is, e := tune.IsTuning(x.s, x.pitches); is != x.want || e != api.OK {
			t.Errorf("%s: %v, %d", x.name, is, e)
		}
	}
}

// P1.1: a tuning, whichever.
func TestTuning(t *testing.T) {
	for name, s := range validSets() {
		if name == "it cannot be in tune" || name == "the greatest beat" {
			continue
		}
		pitches, e := tune.Tuning(s)
		if is, _ := tune.IsTuning(s, pitches); e != api.OK || !is {
			t.Errorf("%s: %v, %d", name, pitches, e)
		}
	}
	if pitches, e := tune.Tuning(untunable()); len(pitches) != 0 || e != api.ErrTuneFalse {
		t.Errorf("out of tune: %v, %d", pitches, e)
	}
}

// P1.2: between what a pitch lies, and which ones between that cannot be.
func TestPitch(t *testing.T) {
	double := oneStep(to(9, 14), to(20, 25), to(2000, 2000))
	for _, x := range []struct {
		name string
		s    api.TuneSet
		key  int
		want api.Span
	}{
		{"the key 0 of the example", example(), 0, to(200, 204)},
		{"the key 5 of the example", example(), 5, to(303, 310)},
		{"what is rounded up below", double, 0, to(10, 12)},
		{"what is rounded down above", double, 1, to(20, 24)},
		{"a single key", loose(to(3, 8)), 0, to(3, 8)},
		{"a lower key of a pair", onePair(to(5, 16), to(8, 9), to(2, 3)), 0, to(5, 7)},
		{"a higher key of a pair", onePair(to(5, 6), to(1, 29), to(2, 3)), 1, to(7, 9)},
		{"over a third key", with(func(s *api.TuneSet) { s.Heard[4] = to(298, 300) }), 5, to(304, 310)},
	} {
		if got, e := tune.Pitch(x.s, x.key); got != x.want || e != api.OK {
			t.Errorf("%s: %v, %d", x.name, got, e)
		}
	}
	for _, x := range []struct {
		name       string
		s          api.TuneSet
		key, pitch int
		want       bool
	}{
		{"302 in the example", example(), 5, 302, false},
		{"303 in the example", example(), 5, 303, true},
		{"one between the ends", double, 1, 22, true},
		{"one between the ends that cannot be", double, 1, 21, false},
		{"below Heard", double, 0, 8, false},
		{"above Heard", double, 1, 26, false},
		{"far below", double, 0, math.MinInt, false},
		{"far above", double, 0, math.MaxInt, false},
	} {
		if got, e := tune.Can(x.s, x.key, x.pitch); got != x.want || e != api.OK {
			t.Errorf("%s: %v, %d", x.name, got, e)
		}
	}
}

// P1.3: differences.
func TestApart(t *testing.T) {
	for _, x := range []struct {
		name       string
		s          api.TuneSet
		one, other int
		want       api.Span
	}{
		{"0 and 2 of the example", example(), 0, 2, to(39, 42)},
		{"2 and 0 of the example", example(), 2, 0, to(-42, -39)},
		{"0 and 1 of the example", example(), 0, 1, to(4, 7)},
		{"3 and 3 of the example", example(), 3, 3, to(0, 0)},
		{"keys that nothing joins", loose(to(5, 9), to(20, 30)), 0, 1, to(11, 25)},
		{"a pair of which not all can be", onePair(to(5, 9), to(6, 7), to(0, 1)), 0, 1, to(0, 1)},
		{"two pairs over a key", api.TuneSet{Heard: []api.Span{to(10, 10), to(12, 20), to(1, 30)}, Pairs: [][2]int{{0, 1}, {2, 0}}, Beat: to(2, 5)}, 1, 2, to(-10, -4)},
	} {
		if got, e := tune.Apart(x.s, x.one, x.other); got != x.want || e != api.OK {
			t.Errorf("%s: %v, %d", x.name, got, e)
		}
	}
}

// P1.4: the band.
func TestEven(t *testing.T) {
	three := func(first, second api.Span) api.TuneSet {
		return api.TuneSet{Heard: []api.Span{to(10, 10), first, second}, Pairs: [][2]int{{0, 1}, {0, 2}}, Beat: to(0, 60)}
	}
	for _, x := range []struct {
		name string
		s    api.TuneSet
		want api.Span
	}{
		{"the example", example(), to(4, 4)},
		{"the lowest of several", three(to(10, 14), to(12, 18)), to(2, 2)},
		{"pairs that never beat as often", three(to(11, 13), to(18, 20)), to(3, 8)},
		{"the other way round", three(to(18, 20), to(11, 13)), to(3, 8)},
		{"the whole Beat", api.TuneSet{Heard: []api.Span{to(10, 10), to(10, 10), to(70, 70)}, Pairs: [][2]int{{0, 1}, {0, 2}}, Beat: to(0, 60)}, to(0, 60)},
		{"the least Beat", onePair(to(5, 6), to(8, 20), to(5, 9)), to(5, 5)},
		{"one beat, not the least", onePair(to(5, 5), to(12, 12), to(0, 60)), to(7, 7)},
	} {
		if got, e := tune.Even(x.s); got != x.want || e != api.OK {
			t.Errorf("%s: %v, %d", x.name, got, e)
		}
	}
}

// P1.5: what is surely in tune.
func TestSure(t *testing.T) {
	for _, x := range []struct {
		name string
		s    api.TuneSet
		want bool
	}{
		{"the example", example(), false},
		{"out of tune", untunable(), false},
		{"a single key", loose(to(1, 41)), true},
		{"a pair", onePair(to(5, 6), to(8, 9), to(2, 4)), true},
		{"a pair that can beat too little", onePair(to(5, 6), to(8, 9), to(3, 4)), false},
		{"a pair that can beat too much", onePair(to(5, 6), to(8, 9), to(2, 3)), false},
		{"a step", oneStep(to(10, 11), to(20, 22), to(1818, 2200)), true},
		{"a step that can be too small", oneStep(to(10, 11), to(20, 22), to(1819, 2200)), false},
		{"a step that can be too great", oneStep(to(10, 11), to(20, 22), to(1818, 2199)), false},
	} {
		if got, e := tune.Sure(x.s); got != x.want || e != api.OK {
			t.Errorf("%s: %v, %d", x.name, got, e)
		}
	}
}

// P1.6: the keys that must be out of tune.
func TestWrong(t *testing.T) {
	twoTorn := api.TuneSet{
		Heard: []api.Span{to(10, 10), to(30, 30), to(10, 10), to(30, 30)}, Pairs: [][2]int{{1, 0}, {3, 2}}, Beat: to(0, 5),
	}
	star := api.TuneSet{
		Heard: []api.Span{to(10, 10), to(10, 10), to(10, 10), to(30, 30)}, Pairs: [][2]int{{0, 3}, {1, 3}, {2, 3}}, Beat: to(0, 5),
	}
	chain := api.TuneSet{
		Heard: []api.Span{to(10, 10), to(12, 16), to(19, 19)}, Pairs: [][2]int{{0, 1}, {1, 2}}, Beat: to(2, 4),
	}
	for _, x := range []struct {
		name string
		s    api.TuneSet
		want []int
	}{
		{"the example", example(), nil},
		{"a key too high", untunable(), []int{2}},
		{"the first of two", oneStep(to(10, 10), to(30, 30), to(2000, 2000)), []int{0}},
		{"two pairs", twoTorn, []int{0, 2}},
		{"the fewest, not the first", star, []int{3}},
		{"pitches that fit by twos, not by threes", chain, []int{0}},
		{"a single key", loose(to(3, 5)), nil},
	} {
		if got, e := tune.Wrong(x.s); !slices.Equal(got, x.want) || e != api.OK {
			t.Errorf("%s: %v, %d", x.name, got, e)
		}
	}
}

// P1.7, R4: nothing of an argument is changed, and no memory is shared.
func TestMemory(t *testing.T) {
	for _, s := range []api.TuneSet{example(), untunable(), eight()} {
		before := api.TuneSet{Heard: slices.Clone(s.Heard), Pairs: slices.Clone(s.Pairs), Beat: s.Beat}
		for _, scale := range s.Scales {
			before.Scales = append(before.Scales, api.TuneScale{Keys: slices.Clone(scale.Keys), Steps: slices.Clone(scale.Steps)})
		}
		answers(s, 0, 1)
		if !reflect.DeepEqual(s, before) {
			t.Errorf("a set was changed: %v is %v", before, s)
		}
	}
	pitches := []int{202, 206, 242, 246, 292, 305}
	tune.IsTuning(example(), pitches)
	if !slices.Equal(pitches, []int{202, 206, 242, 246, 292, 305}) {
		t.Errorf("pitches were changed: %v", pitches)
	}
	for name, list := range map[string]func() []int{
		"Tuning": func() []int { l, _ := tune.Tuning(example()); return l },
		"Wrong":  func() []int { l, _ := tune.Wrong(untunable()); return l },
	} {
		first := list()
		want := slices.Clone(first)
		for i := range first {
			first[i] = -1
		}
		if again := list(); !slices.Equal(again, want) {
			t.Errorf("%s: %v after a result was changed, not %v", name, again, want)
		}
	}
}

// R3: nil and empty are the same.
func TestNilAndEmpty(t *testing.T) {
	for _, pair := range [][2]api.TuneSet{
		{loose(to(5, 6)), {Heard: []api.Span{to(5, 6)}, Scales: []api.TuneScale{}, Pairs: [][2]int{}}},
		{{}, {Heard: []api.Span{}, Scales: []api.TuneScale{}, Pairs: [][2]int{}}},
		{{Heard: []api.Span{to(5, 6)}, Scales: []api.TuneScale{{Keys: []int{0}}}}, {Heard: []api.Span{to(5, 6)}, Scales: []api.TuneScale{{Keys: []int{0}, Steps: []api.Span{}}}}},
	} {
		one, e := answers(pair[0], 0, 0)
		other, f := answers(pair[1], 0, 0)
		if !reflect.DeepEqual(one, other) || !slices.Equal(e, f) {
			t.Errorf("%v: %v, %v; %v: %v, %v", pair[0], one, e, pair[1], other, f)
		}
	}
}

// P2: a call says the same, whatever was called before.
func TestSameAgain(t *testing.T) {
	sets := []api.TuneSet{example(), untunable(), eight(), {}}
	for _, s := range sets {
		first, e := answers(s, 0, 1)
		for _, between := range sets {
			answers(between, 1, 0)
		}
		if again, f := answers(s, 0, 1); !reflect.DeepEqual(first, again) || !slices.Equal(e, f) {
			t.Errorf("%v: %v, and then %v", s, first, again)
		}
	}
}
