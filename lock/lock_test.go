package lock_test

import (
	"math"
	"reflect"
	"slices"
	"testing"

	"saron/api"
	"saron/lock"
)

// Players, and what is in the place of a tone or a player where nothing is struck.
const (
	left    = api.LockLeft
	right   = api.LockRight
	nothing = -1
)

func of(numbers ...int) []int { return numbers }

func line(leftTones, rightTones, run int, slots ...int) api.LockLine {
	return api.LockLine{Slots: slots, Left: leftTones, Right: rightTones, Run: run}
}

// shared returns a line of one tone, which both players have.
func shared(slots, run int) api.LockLine { return line(1, 1, run, make([]int, slots)...) }

// example is the line of the chapter's examples. The left player can have the parts 0 1 4, 0 1 3 4, 0 3 4, and 0 3 4 7.
func example() api.LockLine { return line(3, 6, 2, 0, 1, 2, 1, 0, nothing, 2, 1) }

// with returns the line of the examples after a change.
func with(change func(l *api.LockLine)) api.LockLine {
	l := example()
	change(&l)
	return l
}

func fair() []int { return of(0, 0, 1, 0, 0, nothing, 1, 1) }

// solo is a line of which the left player strikes all there is, 15 slots.
func solo() api.LockLine { return line(1, 0, 15, append(make([]int, 15), nothing)...) }

func soloPlayers() []int { return append(make([]int, 15), nothing) }

func validLines() map[string]api.LockLine {
	return map[string]api.LockLine{
		"the example":        example(),
		"one slot":           shared(1, 1),
		"16 slots":           shared(16, 16),
		"no tones of anyone": line(0, 0, 1, 7),
		"all tones":          line(255, 255, 16, 0, 1, 2, 3, 4, 5, 6, 7),
		"the last slot only": line(1, 2, 3, nothing, nothing, 0),
		"solo":               solo(),
	}
}

func wrongLines() map[string]api.LockLine {
	lines := map[string]api.LockLine{"nothing": {}}
	for name, change := range map[string]func(l *api.LockLine){
		"no slots":              func(l *api.LockLine) { l.Slots = nil },
		"17 slots":              func(l *api.LockLine) { l.Slots = make([]int, 17) },
		"far too many slots":    func(l *api.LockLine) { l.Slots = make([]int, 1000) },
		"a rest alone":          func(l *api.LockLine) { l.Slots = of(nothing) },
		"16 rests":              func(l *api.LockLine) { l.Slots = slices.Repeat(of(nothing), 16) },
		"17 rests":              func(l *api.LockLine) { l.Slots = slices.Repeat(of(nothing), 17) },
		"the tone -2":           func(l *api.LockLine) { l.Slots[0] = -2 },
		"the tone 8":            func(l *api.LockLine) { l.Slots[7] = 8 },
		"a tone far too great":  func(l *api.LockLine) { l.Slots[3] = math.MaxInt },
		"a tone far too small":  func(l *api.LockLine) { l.Slots[3] = math.MinInt },
		"left below 0":          func(l *api.LockLine) { l.Left = -1 },
		"left 256":              func(l *api.LockLine) { l.Left = 256 },
		"left far too great":    func(l *api.LockLine) { l.Left = math.MaxInt },
		"left far too small":    func(l *api.LockLine) { l.Left = math.MinInt },
		"right below 0":         func(l *api.LockLine) { l.Right = -1 },
		"right 256":             func(l *api.LockLine) { l.Right = 256 },
		"right far too great":   func(l *api.LockLine) { l.Right = math.MaxInt },
		"the run 0":             func(l *api.LockLine) { l.Run = 0 },
		"the run 17":            func(l *api.LockLine) { l.Run = 17 },
		"a run below 0":         func(l *api.LockLine) { l.Run = -1 },
		"a run far too great":   func(l *api.LockLine) { l.Run = math.MaxInt },
		"a run far too small":   func(l *api.LockLine) { l.Run = math.MinInt },
		"a wrong tone and rest": func(l *api.LockLine) { l.Slots = of(nothing, 8) },
	} {
		lines[name] = with(change)
	}
	return lines
}

// question is what the functions are asked of a line.
type question struct {
	players         []int
	who, late, lost int
	part            []int
	sounds          [][]int
}

func ordinary() question {
	return question{
		players: fair(), who: left, late: 1, lost: 1, part: of(0, 1, 4),
		sounds: [][]int{{0, 1}, {1}, nil, {1, 2}, {0}, nil, nil, {2}},
	}
}

// asking returns the ordinary question after a change.
func asking(change func(q *question)) question {
	q := ordinary()
	change(&q)
	return q
}

// The numbers of the functions, in the order of the chapter.
const (
	isSplit = iota
	split
	many
	forced
	mate
	late
	which
	told
	missing
	least
	functions
)

// answers returns what each function says of a line, and the error of it.
func answers(l api.LockLine, q question) ([functions]any, [functions]api.Errno) {
	var results [functions]any
	var errors [functions]api.Errno
	results[isSplit], errors[isSplit] = lock.IsSplit(l, q.players)
	results[split], errors[split] = lock.Split(l)
	results[many], errors[many] = lock.Many(l)
	results[forced], errors[forced] = lock.Forced(l)
	results[mate], errors[mate] = lock.Mate(l, q.who, q.part)
	results[late], errors[late] = lock.Late(l, q.players, q.who, q.late)
	results[which], errors[which] = lock.Which(l, q.players, q.sounds)
	results[told], errors[told] = lock.Told(l, q.players)
	surely, perhaps, e := lock.Missing(l, q.who, q.part, q.lost)
	var both [][]int
	if len(surely) > 0 || len(perhaps) > 0 {
		both = [][]int{surely, perhaps}
	}
	results[missing], errors[missing] = both, e
	results[least], errors[least] = lock.Least(l, q.who, q.part)
	return results, errors
}

// wantErrors checks the errors of all functions, and that what comes with an error is zero (R2).
func wantErrors(t *testing.T, name string, l api.LockLine, q question, want [functions]api.Errno) {
	t.Helper()
	results, errors := answers(l, q)
	if errors != want {
		t.Errorf("%s: the errors are %v, not %v", name, errors, want)
	}
	for i, r := range results {
		v := reflect.ValueOf(r)
		empty := v.IsZero() || v.Kind() == reflect.Slice && v.Len() == 0
		if errors[i] != api.OK && !empty {
			t.Errorf("%s: the result %d comes with an error: %v", name, i, r)
		}
	}
}

// P7.1: what is valid.
func TestCheck(t *testing.T) {
	for name, l := range validLines() {
		if e := lock.Check(l); e != api.OK {
			t.Errorf("%s: %d", name, e)
		}
	}
	for name, l := range wrongLines() {
		if e := lock.Check(l); e != api.ErrLock {
			t.Errorf("%s: %d", name, e)
		}
	}
}

// P7.1 to P7.8, R1, R2: the error of a wrong line comes first.
func TestWrongLines(t *testing.T) {
	var bad [functions]api.Errno
	for i := range bad {
		bad[i] = api.ErrLock
	}
	worst := question{players: of(2), who: -1, late: 9, lost: -1, part: of(-1, 16), sounds: [][]int{{8}}}
	for name, l := range wrongLines() {
		wantErrors(t, name, l, worst, bad)
		wantErrors(t, name, l, ordinary(), bad)
		wantErrors(t, name, l, question{}, bad)
	}
	wantErrors(t, "the ordinary question", example(), ordinary(), [functions]api.Errno{})
	const ask = api.ErrLockAsk
	wantErrors(t, "all that is wrong", example(), worst,
		[functions]api.Errno{mate: ask, late: ask, which: ask, told: ask, missing: ask, least: ask})
}

// P7.4 to P7.6, R1, R2: what is no split.
func TestWrongPlayers(t *testing.T) {
	const ask = api.ErrLockAsk
	for _, p := range [][]int{
		nil, fair()[:7], append(fair(), nothing), append(fair(), fair()...), of(0, 0, 1, 1, 0, nothing, 1, 0),
		of(0, 1, 1, 1, 0, nothing, 1, 1), of(0, 0, 1, 0, 0, 0, 1, 1), of(0, nothing, 1, 0, 0, nothing, 1, 1),
		of(0, 0, 1, 0, 0, nothing, 1, 2), of(0, 0, 1, 0, 0, nothing, 1, math.MaxInt), of(0, 0, 1, 0, 0, -2, 1, 1),
		of(math.MinInt, 0, 1, 0, 0, nothing, 1, 1), make([]int, 1000),
	} {
		q := asking(func(q *question) { q.players = p })
		wantErrors(t, "no split", example(), q, [functions]api.Errno{late: ask, which: ask, told: ask})
	}
}

// P7.3, P7.4, P7.7, P7.8, R1, R2: wrong numbers.
func TestWrongNumbers(t *testing.T) {
	const ask = api.ErrLockAsk
	for _, n := range []int{-1, 2, math.MinInt, math.MaxInt} {
		q := asking(func(q *question) { q.who = n })
		wantErrors(t, "no player", example(), q, [functions]api.Errno{mate: ask, late: ask, missing: ask, least: ask})
		q.part, q.lost = of(0, 7), 0
		wantErrors(t, "no player, and no part", example(), q, [functions]api.Errno{mate: ask, late: ask, missing: ask, least: ask})
	}
	for _, n := range []int{-1, 9, math.MinInt, math.MaxInt} {
		q := asking(func(q *question) { q.late = n })
		wantErrors(t, "too late", example(), q, [functions]api.Errno{late: ask})
	}
	for _, n := range []int{-1, 7, math.MinInt, math.MaxInt} {
		q := asking(func(q *question) { q.lost = n })
		wantErrors(t, "lost too many", example(), q, [functions]api.Errno{missing: ask})
		q.part = of(1, 7)
		wantErrors(t, "lost too many, and no part", example(), q,
			[functions]api.Errno{mate: api.ErrNone, missing: ask, least: api.ErrNone})
	}
	for _, p := range [][]int{
		of(-1), of(8), of(0, 8), of(-1, 0, 4), of(0, 0), of(1, 0), of(0, 4, 1), of(0, 1, 1, 4), of(math.MaxInt),
		of(math.MinInt), of(0, math.MaxInt, 1), of(math.MaxInt, math.MinInt), make([]int, 100),
	} {
		q := asking(func(q *question) { q.part = p })
		wantErrors(t, "what cannot be heard of a player", example(), q, [functions]api.Errno{mate: ask, missing: ask, least: ask})
	}
}

// P7.5, R1, R2: what cannot be heard of both.
func TestWrongSounds(t *testing.T) {
	sounds := ordinary().sounds
	for _, s := range [][][]int{
		nil, {}, sounds[:7], append(slices.Clone(sounds), nil), make([][]int, 9), make([][]int, 1000), {{0}},
		{{-1}, 7: nil}, {{8}, 7: nil}, {7: {8}}, {7: {0, 8}}, {7: {0, 0}}, {7: {1, 0}}, {7: {0, 1, 1}}, {7: {0, 2, 1}},
		{3: {nothing, 0}, 7: nil}, {3: {math.MaxInt}, 7: nil}, {3: {math.MinInt}, 7: nil}, {3: make([]int, 100), 7: nil},
	} {
		q := asking(func(q *question) { q.sounds = s })
		wantErrors(t, "what cannot be heard", example(), q, [functions]api.Errno{which: api.ErrLockAsk})
	}
	q := asking(func(q *question) { q.sounds = [][]int{{0, 1, 2, 3, 4, 5, 6, 7}, 7: {7}} })
	wantErrors(t, "what is never heard", example(), q, [functions]api.Errno{})
}

// P7.2, P7.3, P7.7, P7.8, R2: where there is no split, or none that fits.
func TestNone(t *testing.T) {
	const ask, none = api.ErrLockAsk, api.ErrNone
	for name, l := range map[string]api.LockLine{
		"a tone that nobody has":   with(func(l *api.LockLine) { l.Slots[7] = 3 }),
		"no tones":                 with(func(l *api.LockLine) { l.Left, l.Right = 0, 0 }),
		"too short a run":          with(func(l *api.LockLine) { l.Slots[5], l.Run = 0, 1 }),
		"one player has no rest":   line(255, 0, 16, 0, 1, 2, 3, 4, 5, 6, 7),
		"too many of one in a row": line(3, 2, 2, 0, 0, 0, nothing, 1, nothing, 1, nothing),
	} {
		wantErrors(t, name, l, ordinary(),
			[functions]api.Errno{split: none, forced: none, mate: none, late: ask, which: ask, told: ask, missing: none, least: none})
		if n, e := lock.Many(l); n != 0 || e != api.OK {
			t.Errorf("%s: Many: %d, %d", name, n, e)
		}
	}
	for _, p := range [][]int{of(1, 7), of(2), of(5), of(0, 1, 3, 4, 7), of(0, 1, 2, 3, 4, 5, 6, 7)} {
		q := asking(func(q *question) { q.part, q.lost = p, 6 })
		wantErrors(t, "strokes of no split", example(), q, [functions]api.Errno{mate: none, missing: none, least: none})
	}
	q := asking(func(q *question) { q.part = of(0, 4) })
	wantErrors(t, "a part with a stroke too few", example(), q, [functions]api.Errno{mate: none})
	q.lost = 0
	wantErrors(t, "none may be lost", example(), q, [functions]api.Errno{mate: none, missing: none})
	q.part, q.lost = nil, 2
	wantErrors(t, "not as many may be lost", example(), q, [functions]api.Errno{mate: none, missing: none})
	q = asking(func(q *question) {
		q.players, q.part, q.lost, q.sounds = soloPlayers(), of(0, 1, 2, 3, 4, 5, 6, 7), 6, make([][]int, 16)
	})
	wantErrors(t, "more were lost than can be asked for", solo(), q, [functions]api.Errno{mate: none, missing: none})
}

// P7.1: what is a split.
func TestIsSplit(t *testing.T) {
	for _, x := range []struct {
		name    string
		l       api.LockLine
		players []int
		want    bool
	}{
		{"the fair one", example(), fair(), true},
		{"three in a row over the end", example(), of(0, 0, 1, 1, 0, nothing, 1, 0), false},
		{"three in a row", example(), of(0, 1, 1, 1, 0, nothing, 1, 1), false},
		{"another one", example(), of(0, 1, 1, 0, 0, nothing, 1, 0), true},
		{"a tone that the left one does not have", example(), of(0, 0, 0, 1, 0, nothing, 1, 1), false},
		{"a tone that the right one does not have", example(), of(0, 0, 1, 0, 1, nothing, 1, 1), false},
		{"struck where nothing is", example(), of(0, 0, 1, 0, 0, 1, 1, 1), false},
		{"not struck", example(), of(0, 0, 1, 0, 0, nothing, 1, nothing), false},
		{"no player", example(), of(0, 0, 1, 0, 0, nothing, 1, 2), false},
		{"no rest", example(), of(0, 0, 1, 0, 0, -2, 1, 1), false},
		{"too short", example(), fair()[:7], false},
		{"too long", example(), append(fair(), 0), false},
		{"twice as long", example(), append(fair(), fair()...), false},
		{"nothing", example(), nil, false},
		{"one slot, over and over", shared(1, 16), of(0), false},
		{"two slots, over and over", shared(2, 16), of(1, 1), false},
		{"two slots, by turns", shared(2, 1), of(1, 0), true},
		{"16 slots, over and over", shared(16, 16), make([]int, 16), false},
		{"15 slots in a row", shared(16, 15), append(make([]int, 15), 1), true},
		{"15 slots in a row, too many", shared(16, 14), append(make([]int, 15), 1), false},
		{"solo", solo(), soloPlayers(), true},
		{"two in a row at the end", line(1, 1, 1, nothing, 0, 0), of(nothing, 0, 0), false},
		{"two in a row, over the end", line(1, 1, 1, 0, nothing, 0), of(1, nothing, 1), false},
		{"one at both ends each", line(1, 1, 1, 0, nothing, 0), of(1, nothing, 0), true},
		{"the greatest tones", line(128, 64, 1, 7, 6), of(0, 1), true},
		{"the greatest tones, exchanged", line(128, 64, 1, 7, 6), of(1, 0), false},
	} {
		if is, e := lock.IsSplit(x.l, x.players); is != x.want || e != api.OK {
			t.Errorf("%s: %v, %d, not %v", x.name, is, e, x.want)
		}
	}
}

// P7.1: how many splits there are.
func TestMany(t *testing.T) {
	for _, x := range []struct {
		name string
		l    api.LockLine
		want int
	}{
		{"the example", example(), 4},
		{"by turns", with(func(l *api.LockLine) { l.Run = 1 }), 0},
		{"three in a row", with(func(l *api.LockLine) { l.Run = 3 }), 8},
		{"any run", with(func(l *api.LockLine) { l.Run = 16 }), 8},
		{"one slot", shared(1, 16), 0},
		{"two slots", shared(2, 16), 2},
		{"three slots, two in a row", shared(3, 2), 6},
		{"three slots, by turns", shared(3, 1), 0},
		{"15 slots, by turns", shared(15, 1), 0},
		{"16 slots, by turns", shared(16, 1), 2},
		{"16 slots, any run", shared(16, 16), 65534},
		{"16 slots, 15 in a row", shared(16, 15), 65534},
		{"16 slots, 14 in a row", shared(16, 14), 65534 - 32},
		{"solo", solo(), 1},
		{"solo, too short a run", line(1, 0, 14, solo().Slots...), 0},
		{"one stroke", line(1, 1, 1, 0, nothing), 2},
		{"one stroke of one player", line(1, 2, 1, 0, nothing), 1},
		{"one stroke of nobody", line(2, 2, 1, 0, nothing), 0},
		{"side by side", line(1, 1, 1, 0, 0, nothing), 2},
		{"side by side, two in a row", line(1, 1, 2, 0, 0, nothing), 4},
		{"side by side over the end", line(1, 1, 1, 0, nothing, 0), 2},
		{"apart", line(1, 1, 1, 0, nothing, 0, nothing), 4},
	} {
		if n, e := lock.Many(x.l); n != x.want || e != api.OK {
			t.Errorf("%s: %d, %d, not %d", x.name, n, e, x.want)
		}
	}
}

// P7.2: the fairest split, the first one of several.
func TestSplit(t *testing.T) {
	for _, x := range []struct {
		name string
		l    api.LockLine
		want []int
	}{
		{"the example", example(), fair()},
		{"two slots", shared(2, 1), of(0, 1)},
		{"three slots", shared(3, 2), of(0, 0, 1)},
		{"four slots", shared(4, 3), of(0, 0, 1, 1)},
		{"16 slots", shared(16, 16), of(0, 0, 0, 0, 0, 0, 0, 0, 1, 1, 1, 1, 1, 1, 1, 1)},
		{"16 slots, two in a row", shared(16, 2), of(0, 0, 1, 0, 0, 1, 0, 0, 1, 1, 0, 1, 1, 0, 1, 1)},
		{"solo", solo(), soloPlayers()},
		{"one stroke", line(1, 1, 1, nothing, 0), of(nothing, 0)},
		{"one stroke of the right one", line(2, 1, 1, nothing, 0), of(nothing, 1)},
		{"the right one strikes more", line(2, 3, 4, 0, 0, 1, nothing, 0), of(1, 1, 0, nothing, 1)},
		{"far from fair", line(1, 3, 3, 1, 0, 1, 1), of(1, 0, 1, 1)},
		{"less fair ones are before it", line(1, 1, 4, 0, 0, 0, 0, nothing), of(0, 0, 1, 1, nothing)},
	} {
		if s, e := lock.Split(x.l); !slices.Equal(s, x.want) || e != api.OK {
			t.Errorf("%s: %v, %d, not %v", x.name, s, e, x.want)
		}
	}
}

// P7.2: the slots of which there is no choice.
func TestForced(t *testing.T) {
	for _, x := range []struct {
		name string
		l    api.LockLine
		want []int
	}{
		{"the example", example(), of(0, 2, 4, 6)},
		{"all are free", shared(16, 16), nil},
		{"by turns, either way", shared(16, 1), nil},
		{"solo", solo(), of(0, 1, 2, 3, 4, 5, 6, 7, 8, 9, 10, 11, 12, 13, 14)},
		{"one begins, by turns", line(3, 2, 1, 0, 1, 1, 1), of(0, 1, 2, 3)},
		{"one begins, two in a row", line(3, 2, 2, 0, 1, 1), of(0)},
		{"the right one begins, by turns", line(2, 3, 1, 0, 1, nothing, 1), of(0, 1, 3)},
		{"none but free ones and rests", line(1, 1, 1, 0, nothing, 0, nothing), nil},
		{"forced over the end", line(2, 3, 1, nothing, 1, 1, 0), of(1, 2, 3)},
	} {
		if f, e := lock.Forced(x.l); !slices.Equal(f, x.want) || e != api.OK {
			t.Errorf("%s: %v, %d, not %v", x.name, f, e, x.want)
		}
	}
}

// P7.3: the part that fits another one.
func TestMate(t *testing.T) {
	for _, x := range []struct {
		name string
		l    api.LockLine
		who  int
		part []int
		want []int
		e    api.Errno
	}{
		{"of the left one", example(), left, of(0, 1, 4), of(2, 3, 6, 7), api.OK},
		{"that is of no split", example(), left, of(0, 1, 3), nil, api.ErrNone},
		{"of the right one", example(), right, of(2, 3, 6, 7), of(0, 1, 4), api.OK},
		{"of the right one, another one", example(), right, of(1, 2, 6), of(0, 3, 4, 7), api.OK},
		{"the left one's part, of the right one", example(), right, of(0, 1, 4), nil, api.ErrNone},
		{"too often over the end", example(), left, of(0, 1, 3, 4, 7), nil, api.ErrNone},
		{"the other one too often", example(), left, of(0, 4, 7), nil, api.ErrNone},
		{"at a slot of no tone", example(), left, of(0, 1, 4, 5), nil, api.ErrNone},
		{"with a tone of the other one", example(), left, of(0, 1, 4, 6), nil, api.ErrNone},
		{"nothing", example(), left, nil, nil, api.ErrNone},
		{"all of it", solo(), left, solo15(), nil, api.OK},
		{"nothing of it", solo(), right, nil, solo15(), api.OK},
		{"all of it, over and over", shared(2, 16), left, of(0, 1), nil, api.ErrNone},
		{"by turns", shared(4, 1), right, of(0, 2), of(1, 3), api.OK},
	} {
		if m, e := lock.Mate(x.l, x.who, x.part); !slices.Equal(m, x.want) || e != x.e {
			t.Errorf("%s: %v, %d, not %v, %d", x.name, m, e, x.want, x.e)
		}
	}
}

func solo15() []int { return of(0, 1, 2, 3, 4, 5, 6, 7, 8, 9, 10, 11, 12, 13, 14) }

// P7.4: what is heard of a player who is late.
func TestLate(t *testing.T) {
	onTime := [][]int{{0}, {1}, {2}, {1}, {0}, nil, {2}, {1}}
	for _, x := range []struct {
		name      string
		l         api.LockLine
		players   []int
		who, late int
		want      [][]int
	}{
		{"the right one", example(), fair(), right, 1, [][]int{{0, 1}, {1}, nil, {1, 2}, {0}, nil, nil, {2}}},
		{"the left one", example(), fair(), left, 1, [][]int{nil, {0}, {1, 2}, nil, {1}, {0}, {2}, {1}}},
		{"the left one, two slots", example(), fair(), left, 2, [][]int{nil, nil, {0, 2}, {1}, nil, {1}, {0, 2}, {1}}},
		{"nobody", example(), fair(), right, 0, onTime},
		{"nobody, the left one", example(), fair(), left, 0, onTime},
		{"as late as the line is long", example(), fair(), right, 8, onTime},
		{"later than the line is long", shared(2, 1), of(0, 1), left, 7, [][]int{nil, {0}}},
		{"later than three slots", line(1, 2, 1, 0, 1, nothing), of(0, 1, nothing), right, 8, [][]int{{0, 1}, nil, nil}},
		{"both strike the same tone", line(1, 1, 1, 0, nothing, 0, nothing), of(1, nothing, 0, nothing), right, 2, [][]int{nil, nil, {0}, nil}},
		{"both strike, the greater tone first", line(2, 1, 1, 1, 0), of(0, 1), right, 1, [][]int{{0, 1}, nil}},
		{"who does not strike", line(1, 0, 1, 0, nothing), of(0, nothing), right, 1, [][]int{{0}, nil}},
		{"the greatest tone", line(128, 1, 1, 7, 0), of(0, 1), left, 1, [][]int{nil, {0, 7}}},
		{"the last slot", line(1, 2, 16, append(make([]int, 15), 1)...), append(make([]int, 15), 1), right, 1,
			[][]int{{0, 1}, {0}, {0}, {0}, {0}, {0}, {0}, {0}, {0}, {0}, {0}, {0}, {0}, {0}, {0}, nil}},
	} {
		if h, e := lock.Late(x.l, x.players, x.who, x.late); !slices.EqualFunc(h, x.want, slices.Equal) || e != api.OK {
			t.Errorf("%s: %v, %d, not %v", x.name, h, e, x.want)
		}
	}
}

// P7.5: who was late.
func TestWhich(t *testing.T) {
	onTime := [][]int{{0}, {1}, {2}, {1}, {0}, nil, {2}, {1}}
	for _, x := range []struct {
		name    string
		l       api.LockLine
		players []int
		heard   [][]int
		want    [][2]int
	}{
		{"the right one", example(), fair(), ordinary().sounds, [][2]int{{right, 1}}},
		{"nobody", example(), fair(), onTime, [][2]int{{left, 0}, {left, 8}, {right, 0}, {right, 8}}},
		{"what is never heard", example(), fair(), make([][]int, 8), nil},
		{"a tone more", example(), fair(), [][]int{{0, 1}, {1}, nil, {1, 2}, {0}, {0}, nil, {2}}, nil},
		{"a tone less", example(), fair(), [][]int{{0, 1}, {1}, nil, {1, 2}, nil, nil, nil, {2}}, nil},
		{"a tone that there is not", example(), fair(), [][]int{{0, 1}, {1}, nil, {1, 2}, {0}, nil, nil, {7}}, nil},
		{"two slots, on time", shared(2, 1), of(0, 1), [][]int{{0}, {0}},
			[][2]int{{0, 0}, {0, 2}, {0, 4}, {0, 6}, {0, 8}, {1, 0}, {1, 2}, {1, 4}, {1, 6}, {1, 8}}},
		{"two slots, the left one is late", shared(2, 1), of(0, 1), [][]int{nil, {0}}, [][2]int{{0, 1}, {0, 3}, {0, 5}, {0, 7}}},
		{"two slots, the right one is late", shared(2, 1), of(0, 1), [][]int{{0}, nil}, [][2]int{{1, 1}, {1, 3}, {1, 5}, {1, 7}}},
		{"one who does not strike", line(1, 0, 1, 0, nothing, nothing), of(0, nothing, nothing), [][]int{{0}, nil, nil},
			[][2]int{{0, 0}, {0, 3}, {0, 6}, {1, 0}, {1, 1}, {1, 2}, {1, 3}, {1, 4}, {1, 5}, {1, 6}, {1, 7}, {1, 8}}},
		{"three slots together", shared(4, 3), of(0, 1, 1, 1), [][]int{nil, {0}, {0}, {0}}, [][2]int{{0, 1}, {0, 2}, {0, 3}, {0, 5}, {0, 6}, {0, 7}}},
		{"the greatest tones", line(128, 64, 1, 7, 6, nothing), of(0, 1, nothing), [][]int{nil, {6, 7}, nil}, [][2]int{{0, 1}, {0, 4}, {0, 7}}},
	} {
		if w, e := lock.Which(x.l, x.players, x.heard); !slices.Equal(w, x.want) || e != api.OK {
			t.Errorf("%s: %v, %d, not %v", x.name, w, e, x.want)
		}
	}
}

// P7.6: up to what what is heard tells who is late.
func TestTold(t *testing.T) {
	far := slices.Repeat(of(nothing), 16)
	far[0], far[1] = 0, 1
	for _, x := range []struct {
		name    string
		l       api.LockLine
		players []int
		want    int
	}{
		{"the example", example(), fair(), 7},
		{"far apart", line(1, 2, 1, far...), far, 8},
		{"nine slots", line(1, 2, 1, far[:9]...), far[:9], 8},
		{"eight slots", line(1, 2, 1, far[:8]...), far[:8], 7},
		{"three slots", line(1, 2, 1, far[:3]...), far[:3], 2},
		{"two slots", line(1, 2, 1, far[:2]...), far[:2], 1},
		{"two slots of one tone", shared(2, 1), of(0, 1), 1},
		{"who does not strike", solo(), soloPlayers(), 0},
		{"who does not strike is the left one", line(2, 1, 1, 0, nothing), of(1, nothing), 0},
		{"the same after two slots", line(1, 2, 1, 0, 1, 0, 1, 0, 1, 0, 1), of(0, 1, 0, 1, 0, 1, 0, 1), 1},
		{"the same after four slots", line(1, 2, 2, 0, 0, 1, nothing, 0, 0, 1, nothing), of(0, 0, 1, nothing, 0, 0, 1, nothing), 3},
		{"over the strokes of the other one", shared(4, 3), of(0, 1, 1, 1), 1},
		{"over the strokes of the other one, later", shared(6, 3), of(0, 0, 0, 1, 1, 1), 5},
	} {
		if n, e := lock.Told(x.l, x.players); n != x.want || e != api.OK {
			t.Errorf("%s: %d, %d, not %d", x.name, n, e, x.want)
		}
	}
}

// P7.7: the strokes that were lost.
func TestMissing(t *testing.T) {
	for _, x := range []struct {
		name            string
		l               api.LockLine
		who             int
		heard           []int
		lost            int
		surely, perhaps []int
	}{
		{"one of two", example(), left, of(0, 4), 1, nil, of(1, 3)},
		{"two of three", example(), left, of(0, 4), 2, nil, of(1, 3, 7)},
		{"all may be lost", example(), left, of(0, 4), 6, nil, of(1, 3, 7)},
		{"known", example(), left, of(0, 7), 2, of(3, 4), nil},
		{"known, more may be lost", example(), left, of(0, 7), 6, of(3, 4), nil},
		{"known in part", example(), left, of(0), 2, of(4), of(1, 3)},
		{"nothing was heard", example(), left, nil, 3, of(0, 4), of(1, 3)},
		{"nothing was heard, of four", example(), left, nil, 4, of(0, 4), of(1, 3, 7)},
		{"nothing was lost", example(), left, of(0, 1, 4), 0, nil, nil},
		{"perhaps nothing was lost", example(), left, of(0, 1, 4), 1, nil, of(3)},
		{"of the right one", example(), right, of(1), 2, of(2, 6), nil},
		{"of the right one, three", example(), right, of(1), 3, of(2, 6), of(7)},
		{"six of 15", solo(), left, of(0, 1, 2, 4, 6, 8, 10, 12, 14), 6, of(3, 5, 7, 9, 11, 13), nil},
		{"nothing of nothing", solo(), right, nil, 0, nil, nil},
		{"nothing of nothing, six", solo(), right, nil, 6, nil, nil},
		{"by turns, either way", shared(12, 1), left, nil, 6, nil, of(0, 1, 2, 3, 4, 5, 6, 7, 8, 9, 10, 11)},
		{"by turns, the first of all", shared(12, 1), right, of(2), 5, of(0, 4, 6, 8, 10), nil},
		{"all but 10 of 16", shared(16, 16), left, of(1, 2, 3, 4, 5, 6, 7, 8, 9, 10), 6, nil, of(0, 11, 12, 13, 14, 15)},
	} {
		surely, perhaps, e := lock.Missing(x.l, x.who, x.heard, x.lost)
		if !slices.Equal(surely, x.surely) || !slices.Equal(perhaps, x.perhaps) || e != api.OK {
			t.Errorf("%s: %v, %v, %d, not %v, %v", x.name, surely, perhaps, e, x.surely, x.perhaps)
		}
	}
}

// P7.8: how few strokes were lost.
func TestLeast(t *testing.T) {
	for _, x := range []struct {
		name  string
		l     api.LockLine
		who   int
		heard []int
		want  int
	}{
		{"one", example(), left, of(0, 4), 1},
		{"two", example(), left, of(0, 7), 2},
		{"all", example(), left, nil, 3},
		{"all of the right one", example(), right, nil, 3},
		{"none", example(), left, of(0, 3, 4), 0},
		{"none of the longest", example(), left, of(0, 3, 4, 7), 0},
		{"15, more than can be asked for", solo(), left, nil, 15},
		{"7", solo(), left, of(1, 3, 4, 7, 10, 12, 13, 14), 7},
		{"nothing of nothing", solo(), right, nil, 0},
		{"one of 16", shared(16, 15), right, nil, 1},
		{"by turns", shared(16, 1), right, of(5), 7},
	} {
		if n, e := lock.Least(x.l, x.who, x.heard); n != x.want || e != api.OK {
			t.Errorf("%s: %d, %d, not %d", x.name, n, e, x.want)
		}
	}
}

// copied returns a question that shares no memory with another one.
func copied(q question) question {
	q.players, q.part, q.sounds = slices.Clone(q.players), slices.Clone(q.part), slices.Clone(q.sounds)
	for i, list := range q.sounds {
		q.sounds[i] = slices.Clone(list)
	}
	return q
}

// P7.9: arguments are only read, also behind their ends.
func TestArguments(t *testing.T) {
	l, q := example(), ordinary()
	before := copied(q)
	room := append(l.Slots, 7, 7)
	players := append(q.players, 7, 7)
	part := append(q.part, 7, 7)
	l.Slots, q.players, q.part = room[:8], players[:8], part[:3]
	answers(l, q)
	if !reflect.DeepEqual(l, example()) || !reflect.DeepEqual(q, before) {
		t.Errorf("%v, %v were %v, %v", l, q, example(), before)
	}
	for _, list := range [][]int{room[8:], players[8:], part[3:]} {
		if !slices.Equal(list, of(7, 7)) {
			t.Errorf("behind an argument: %v", list)
		}
	}
}

// P7.9, R4: results share no memory, neither with each other nor with an argument or a later call.
func TestMemory(t *testing.T) {
	l, q := example(), ordinary()
	q.part = of(0)
	q.lost = 2
	want, _ := answers(l, q)
	s, _ := lock.Split(l)
	f, _ := lock.Forced(l)
	m, _ := lock.Mate(l, left, of(0, 1, 4))
	h, _ := lock.Late(l, q.players, left, 1)
	w, _ := lock.Which(l, q.players, q.sounds)
	surely, perhaps, _ := lock.Missing(l, left, q.part, q.lost)
	if len(s) == 0 || len(f) == 0 || len(m) == 0 || len(h) == 0 || len(w) == 0 || len(surely) == 0 || len(perhaps) == 0 {
		t.Fatalf("%v, %v, %v, %v, %v, %v, %v", s, f, m, h, w, surely, perhaps)
	}
	for _, list := range [][]int{append(h[1], -9, -9), append(surely, -9), s, f, m, h[1], surely} {
		for i := range list {
			list[i] = -9
		}
	}
	if !slices.Equal(perhaps, of(1, 3)) || !slices.EqualFunc(h[2:], [][]int{{1, 2}, nil, {1}, {0}, {2}, {1}}, slices.Equal) {
		t.Errorf("%v, %v were changed by others", perhaps, h[2:])
	}
	perhaps[0], w[0] = -9, [2]int{-9, -9}
	for i := range h {
		h[i] = of(-9)
	}
	if again, _ := answers(l, q); !reflect.DeepEqual(again, want) {
		t.Errorf("%v after results were changed, not %v", again, want)
	}
}

// R3: nil and empty are the same.
func TestNilAndEmpty(t *testing.T) {
	for _, l := range []api.LockLine{example(), solo(), line(1, 2, 1, nothing, 0), {Left: 1, Right: 1, Run: 1}} {
		one, e := answers(l, question{sounds: make([][]int, len(l.Slots))})
		q := question{players: []int{}, part: []int{}, sounds: slices.Repeat([][]int{{}}, len(l.Slots))}
		if l.Slots == nil {
			l.Slots = []int{}
		}
		other, f := answers(l, q)
		if !reflect.DeepEqual(one, other) || e != f {
			t.Errorf("%v: %v, %v, not %v, %v", l, other, f, one, e)
		}
	}
	onTime := [][]int{{0}, {1}, {2}, {1}, {0}, {}, {2}, {1}}
	if w, e := lock.Which(example(), fair(), onTime); len(w) != 4 || e != api.OK {
		t.Errorf("Which of what is heard on time: %v, %d", w, e)
	}
}

// P2: a call says the same, whatever was called before.
func TestSameAgain(t *testing.T) {
	lines := []api.LockLine{example(), solo(), shared(8, 2), shared(1, 1), {}}
	for _, l := range lines {
		first, e := answers(l, ordinary())
		for _, between := range lines {
			answers(between, question{players: soloPlayers(), who: 1, late: 8, lost: 6, sounds: make([][]int, 16)})
		}
		if again, f := answers(l, ordinary()); !reflect.DeepEqual(first, again) || e != f {
			t.Errorf("%v: %v, and then %v", l, first, again)
		}
	}
}
