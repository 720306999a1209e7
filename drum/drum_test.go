package drum_test

import (
	"math"
	"reflect"
	"slices"
	"strconv"
	"testing"

	"saron/api"
	"saron/drum"
)

// What can be heard of a mark.
const (
	up   = api.DrumUp
	down = api.DrumDown
	same = api.DrumSame
	lost = api.DrumLost
)

func of(numbers ...int) []int { return numbers }

func span(low, high int) api.Span { return api.Span{Low: low, High: high} }

func player(low, high int, catch ...api.Span) api.DrumPlayer {
	return api.DrumPlayer{Late: span(low, high), Catch: catch}
}

// steady returns a player who is late by up to this number, and catches up by just this one in each beat.
func steady(late, catch int) api.DrumPlayer {
	return player(0, late, slices.Repeat([]api.Span{span(catch, catch)}, 4)...)
}

// example is the book of the chapter's examples.
func example() api.DrumBook {
	return api.DrumBook{
		Parts: 4, Size: 4, Beats: of(10, 16, 24, 40), Start: 1, End: 2, Time: span(240, 320), Slip: span(0, 2), Notice: 2,
		Players: []api.DrumPlayer{
			player(0, 6, span(0, 0), span(0, 1), span(1, 1), span(1, 2)),
			player(2, 3, span(0, 1), span(1, 1), span(1, 2), span(2, 2)),
		},
	}
}

// with returns the book of the examples after a change.
func with(change func(b *api.DrumBook)) api.DrumBook {
	b := example()
	change(&b)
	return b
}

// free is the book of the examples with a Time that each path lasts, and one player who is never late, so that each path with the right end is a plan.
func free() api.DrumBook {
	return with(func(b *api.DrumBook) {
		b.Time, b.Slip, b.Players = span(0, 128000), span(0, 0), []api.DrumPlayer{steady(0, 0)}
	})
}

// great is a book as great as can be.
func great() api.DrumBook {
	return api.DrumBook{
		Parts: 8, Size: 16, Beats: of(1000, 1000, 1000, 1000), Start: 3, End: 3, Time: span(0, 128000), Slip: span(0, 100), Notice: 16,
		Players: slices.Repeat([]api.DrumPlayer{player(500, 500, span(100, 100), span(100, 100), span(100, 100), span(100, 100))}, 5),
	}
}

// small is a book as small as can be.
func small() api.DrumBook {
	return api.DrumBook{
		Parts: 1, Size: 1, Beats: of(1, 1, 1, 1), Notice: 1, Time: span(1, 1),
		Players: []api.DrumPlayer{player(0, 0, make([]api.Span, 4)...)},
	}
}

func validBooks() map[string]api.DrumBook {
	return map[string]api.DrumBook{
		"the example":         example(),
		"free":                free(),
		"great":               great(),
		"small":               small(),
		"the time 0":          with(func(b *api.DrumBook) { b.Time = span(0, 0) }),
		"the greatest time":   with(func(b *api.DrumBook) { b.Time = span(128000, 128000) }),
		"the greatest slip":   with(func(b *api.DrumBook) { b.Slip = span(100, 100) }),
		"a notice of a part":  with(func(b *api.DrumBook) { b.Notice = 4 }),
		"beats of any length": with(func(b *api.DrumBook) { b.Beats = of(1000, 1, 500, 1) }),
		"an end too far away": with(func(b *api.DrumBook) { b.Parts, b.Start, b.End = 2, 0, 3 }),
	}
}

func wrongBooks() map[string]api.DrumBook {
	books := map[string]api.DrumBook{"nothing": {}}
	for name, change := range map[string]func(b *api.DrumBook){
		"no beats":                func(b *api.DrumBook) { b.Beats = nil },
		"3 beats":                 func(b *api.DrumBook) { b.Beats = b.Beats[:3] },
		"5 beats":                 func(b *api.DrumBook) { b.Beats = append(b.Beats, 1) },
		"far too many beats":      func(b *api.DrumBook) { b.Beats = slices.Repeat(of(1), 1000) },
		"no players":              func(b *api.DrumBook) { b.Players = nil },
		"6 players":               func(b *api.DrumBook) { b.Players = slices.Repeat(b.Players, 3) },
		"a player without spans":  func(b *api.DrumBook) { b.Players[1].Catch = nil },
		"a player with 3 spans":   func(b *api.DrumBook) { b.Players[1].Catch = b.Players[1].Catch[:3] },
		"a player with 5 spans":   func(b *api.DrumBook) { b.Players[0].Catch = make([]api.Span, 5) },
		"a player of nothing":     func(b *api.DrumBook) { b.Players[1] = api.DrumPlayer{} },
		"the first player, catch": func(b *api.DrumBook) { b.Players[0].Catch[0] = span(1, 0) },
		"two things":              func(b *api.DrumBook) { b.Parts, b.Notice = 9, 0 },
	} {
		books[name] = with(change)
	}
	for name, x := range map[string]struct {
		least, most int
		set         func(b *api.DrumBook, n int)
	}{
		"parts":        {1, 8, func(b *api.DrumBook, n int) { b.Parts = n }},
		"size":         {1, 16, func(b *api.DrumBook, n int) { b.Size, b.Notice = n, 1 }},
		"first beat":   {1, 1000, func(b *api.DrumBook, n int) { b.Beats[0] = n }},
		"last beat":    {1, 1000, func(b *api.DrumBook, n int) { b.Beats[3] = n }},
		"start":        {0, 3, func(b *api.DrumBook, n int) { b.Start = n }},
		"end":          {0, 3, func(b *api.DrumBook, n int) { b.End = n }},
		"notice":       {1, 4, func(b *api.DrumBook, n int) { b.Notice = n }},
		"least time":   {0, 320, func(b *api.DrumBook, n int) { b.Time.Low = n }},
		"most time":    {240, 128000, func(b *api.DrumBook, n int) { b.Time.High = n }},
		"least slip":   {0, 2, func(b *api.DrumBook, n int) { b.Slip.Low = n }},
		"most slip":    {0, 100, func(b *api.DrumBook, n int) { b.Slip.High = n }},
		"least late":   {0, 3, func(b *api.DrumBook, n int) { b.Players[1].Late.Low = n }},
		"most late":    {2, 500, func(b *api.DrumBook, n int) { b.Players[1].Late.High = n }},
		"least caught": {0, 2, func(b *api.DrumBook, n int) { b.Players[0].Catch[3].Low = n }},
		"most caught":  {1, 100, func(b *api.DrumBook, n int) { b.Players[0].Catch[3].High = n }},
	} {
		for _, n := range of(x.least-1, x.most+1, math.MinInt, math.MaxInt) {
			books[name+" "+strconv.Itoa(n)] = with(func(b *api.DrumBook) { x.set(b, n) })
		}
	}
	return books
}

// question is what the functions are asked of a book.
type question struct {
	path, heard         []int
	player, beats, part int
}

func ordinary() question {
	return question{path: of(1, 1, 2, 2), heard: of(lost, lost, lost), player: 1, beats: 4, part: 2}
}

// asking returns the ordinary question after a change.
func asking(change func(q *question)) question {
	q := ordinary()
	change(&q)
	return q
}

// The numbers of the functions, in the order of the chapter.
const (
	time = iota
	late
	last
	isPlan
	plan
	plans
	bound
	cues
	knows
	functions
)

// answers returns what each function says of a book, and the error of it.
func answers(b api.DrumBook, q question) ([functions]any, [functions]api.Errno) {
	var results [functions]any
	var errors [functions]api.Errno
	results[time], errors[time] = drum.Time(b, q.path)
	results[late], errors[late] = drum.Late(b, q.path, q.player, q.beats)
	results[last], errors[last] = drum.Last(b, q.path)
	results[isPlan], errors[isPlan] = drum.IsPlan(b, q.path)
	results[plan], errors[plan] = drum.Plan(b)
	results[plans], errors[plans] = drum.Plans(b)
	results[bound], errors[bound] = drum.Bound(b, q.player)
	results[cues], errors[cues] = drum.Cues(b, q.path)
	results[knows], errors[knows] = drum.Knows(b, q.heard, q.part)
	return results, errors
}

// wantErrors checks the errors of all functions, and that what comes with an error is zero (R2).
func wantErrors(t *testing.T, name string, b api.DrumBook, q question, want [functions]api.Errno) {
	t.Helper()
	results, errors := answers(b, q)
	if errors != want {
		t.Errorf("%s: the errors are %v, not %v", name, errors, want)
	}
	for i, r := range results {
		v := reflect.ValueOf(r)
		empty := v.IsZero() || v.Kind() == reflect.Slice && v.Len() == 0
		if errors[i] != api.OK && !empty {
			t.Errorf("%s: the result %d comes with an error: %v", name, i, r)
		}
	}
}

// P8.1: what is valid.
func TestCheck(t *testing.T) {
	for name, b := range validBooks() {
		if e := drum.Check(b); e != api.OK {
			t.Errorf("%s: %d", name, e)
		}
	}
	for name, b := range wrongBooks() {
		if e := drum.Check(b); e != api.ErrDrum {
			t.Errorf("%s: %d", name, e)
		}
	}
}

// P8.1 to P8.6, R1, R2: the error of a wrong book comes first.
func TestWrongBooks(t *testing.T) {
	var bad [functions]api.Errno
	for i := range bad {
		bad[i] = api.ErrDrum
	}
	worst := question{path: of(1, 3, -1), heard: of(2), player: 2, beats: -1, part: 4}
	for name, b := range wrongBooks() {
		wantErrors(t, name, b, worst, bad)
		wantErrors(t, name, b, ordinary(), bad)
		wantErrors(t, name, b, question{}, bad)
	}
	wantErrors(t, "the ordinary question", example(), ordinary(), [functions]api.Errno{})
	const ask = api.ErrDrumAsk
	wantErrors(t, "all that is wrong", example(), worst,
		[functions]api.Errno{time: ask, late: ask, last: ask, bound: ask, cues: ask, knows: ask})
}

// P8.1 to P8.3, P8.5, R1, R2: what is no path. It is no plan either.
func TestWrongPaths(t *testing.T) {
	const ask = api.ErrDrumAsk
	for _, p := range [][]int{
		nil, of(1, 1, 2), of(1, 1, 2, 2, 2), make([]int, 1000), of(0, 1, 2, 2), of(2, 1, 2, 2), of(2, 2, 2, 2), of(1, 3, 2, 2),
		of(1, 2, 0, 1), of(1, 1, 1, 3), of(1, 0, -1, 0), of(1, 2, 3, 4), of(1, 1, 2, math.MaxInt), of(1, 1, math.MinInt, 2),
		of(math.MinInt, math.MaxInt, 2, 2), of(-1, 0, 1, 2), of(1, math.MinInt, math.MaxInt, 2), of(1, 2, 3, 1), of(5, 4, 3, 2),
	} {
		q := asking(func(q *question) { q.path = p })
		wantErrors(t, "no path", example(), q, [functions]api.Errno{time: ask, late: ask, last: ask, cues: ask})
		if is, e := drum.IsPlan(example(), p); is || e != api.OK {
			t.Errorf("IsPlan of %v: %v, %d", p, is, e)
		}
	}
	for _, p := range [][]int{of(1), of(0, 0), nil} {
		q := question{path: p}
		wantErrors(t, "no path of one part", small(), q, [functions]api.Errno{time: ask, late: ask, last: ask, cues: ask})
	}
}

// P8.2, P8.4, P8.6, R1, R2: wrong numbers.
func TestWrongNumbers(t *testing.T) {
	const ask = api.ErrDrumAsk
	for _, n := range of(-1, 2, 5, math.MinInt, math.MaxInt) {
		q := asking(func(q *question) { q.player = n })
		wantErrors(t, "no player", example(), q, [functions]api.Errno{late: ask, bound: ask})
	}
	for _, n := range of(-1, 17, math.MinInt, math.MaxInt) {
		q := asking(func(q *question) { q.beats = n })
		wantErrors(t, "wrong beats", example(), q, [functions]api.Errno{late: ask})
	}
	for _, n := range of(-1, 4, math.MinInt, math.MaxInt) {
		q := asking(func(q *question) { q.part = n })
		wantErrors(t, "no part", example(), q, [functions]api.Errno{knows: ask})
		q.heard = of(lost, lost, up)
		wantErrors(t, "no part, and no plan that fits", example(), q, [functions]api.Errno{knows: ask})
	}
	for _, h := range [][]int{
		nil, of(lost, lost), of(lost, lost, lost, lost), make([]int, 1000), of(lost, lost, 2), of(-3, lost, lost),
		of(lost, math.MaxInt, lost), of(lost, math.MinInt, lost), of(up, up, up, 2), of(2),
	} {
		q := asking(func(q *question) { q.heard = h })
		wantErrors(t, "what cannot be heard", example(), q, [functions]api.Errno{knows: ask})
	}
	wantErrors(t, "what cannot be heard of one part", small(), question{path: of(0), heard: of(lost)}, [functions]api.Errno{knows: ask})
	wantErrors(t, "nothing of one part", small(), question{path: of(0)}, [functions]api.Errno{})
}

// P8.3, P8.4, P8.6, R2: where there is no plan, or none that fits.
func TestNone(t *testing.T) {
	const none = api.ErrNone
	for name, b := range map[string]api.DrumBook{
		"too little time":       with(func(b *api.DrumBook) { b.Time = span(0, 199) }),
		"too much time":         with(func(b *api.DrumBook) { b.Time = span(417, 128000) }),
		"a time between":        with(func(b *api.DrumBook) { b.Time = span(321, 327) }),
		"the other one is late": with(func(b *api.DrumBook) { b.Players[0].Late.High = 7 }),
		"one is always late":    with(func(b *api.DrumBook) { b.Players[0] = steady(1, 0) }),
	} {
		wantErrors(t, name, b, ordinary(), [functions]api.Errno{plan: none, bound: none, knows: none})
		if n, e := drum.Plans(b); n != 0 || e != api.OK {
			t.Errorf("%s: Plans: %d, %d", name, n, e)
		}
	}
	far := with(func(b *api.DrumBook) { b.Start, b.End, b.Parts, b.Time = 0, 3, 3, span(0, 128000) })
	wantErrors(t, "an end too far away", far, question{path: of(0, 1, 2), heard: of(lost, up)},
		[functions]api.Errno{plan: none, bound: none, knows: none})
	always := with(func(b *api.DrumBook) { b.Slip, b.Players[1] = span(100, 100), steady(0, 0) })
	wantErrors(t, "late by the slip", always, ordinary(), [functions]api.Errno{plan: none, bound: none, knows: none})
	q := asking(func(q *question) { q.heard = of(lost, lost, up) })
	wantErrors(t, "heard what is in no plan", example(), q, [functions]api.Errno{knows: none})
	bounded := with(func(b *api.DrumBook) { b.Players[0].Late = span(7, 7) })
	wantErrors(t, "who is too late", bounded, asking(func(q *question) { q.player = 0 }), [functions]api.Errno{plan: none, knows: none})
}

// P8.1: how long paths last.
func TestTime(t *testing.T) {
	for _, x := range []struct {
		name string
		b    api.DrumBook
		path []int
		want int
	}{
		{"the plan", example(), of(1, 1, 2, 2), 320},
		{"a path that is no plan", example(), of(1, 1, 1, 2), 288},
		{"a path with another end", example(), of(1, 2, 3, 3), 16*4 + 24*4 + 40*4 + 40*4},
		{"all densities", example(), of(1, 0, 1, 2), 264},
		{"the longest one", great(), slices.Repeat(of(3), 8), 128000},
		{"the shortest one", small(), of(0), 1},
		{"one part", with(func(b *api.DrumBook) { b.Parts, b.Size = 1, 16 }), of(1), 256},
	} {
		if n, e := drum.Time(x.b, x.path); n != x.want || e != api.OK {
			t.Errorf("%s: %d, %d, not %d", x.name, n, e, x.want)
		}
	}
}

// P8.2: between what lies how late a player is.
func TestLate(t *testing.T) {
	slips := with(func(b *api.DrumBook) { b.Slip = span(3, 5) })
	for _, x := range []struct {
		name          string
		b             api.DrumBook
		path          []int
		player, beats int
		want          api.Span
	}{
		{"at first", example(), of(1, 1, 2, 2), 0, 0, span(0, 6)},
		{"at first, the other one", example(), of(1, 1, 2, 2), 1, 0, span(2, 3)},
		{"before the mark", example(), of(1, 1, 2, 2), 0, 8, span(0, 6)},
		{"behind the mark", example(), of(1, 1, 2, 2), 0, 9, span(0, 7)},
		{"a beat later", example(), of(1, 1, 2, 2), 0, 10, span(0, 6)},
		{"at the end", example(), of(1, 1, 2, 2), 0, 16, span(0, 0)},
		{"a beat before it", example(), of(1, 1, 2, 2), 0, 15, span(0, 1)},
		{"never by less than 0", example(), of(1, 1, 2, 2), 1, 4, span(0, 0)},
		{"after one beat", example(), of(1, 1, 2, 2), 1, 1, span(1, 2)},
		{"after two beats", example(), of(1, 1, 2, 2), 1, 2, span(0, 1)},
		{"the densest part", example(), of(1, 2, 3, 3), 0, 9, span(0, 5)},
		{"not without the first beat behind it", slips, of(1, 2, 2, 2), 1, 4, span(0, 0)},
		{"with the first beat behind it", slips, of(1, 2, 2, 2), 1, 5, span(1, 4)},
		{"behind a mark without a change", slips, of(1, 2, 2, 2), 1, 9, span(0, 0)},
		{"less dense", slips, of(1, 0, 0, 0), 1, 5, span(2, 5)},
		{"less dense, at the end of the part", slips, of(1, 0, 0, 0), 1, 8, span(0, 5)},
		{"three changes", slips, of(1, 0, 1, 0), 1, 16, span(0, 11)},
		{"the beats of the part before", slips, of(1, 0, 1, 0), 1, 12, span(0, 6)},
		{"as late as can be", great(), slices.Repeat(of(3), 8), 4, 4, span(100, 100)},
		{"no longer as late", great(), slices.Repeat(of(3), 8), 4, 5, span(0, 0)},
		{"one beat", small(), of(0), 0, 1, span(0, 0)},
	} {
		if s, e := drum.Late(x.b, x.path, x.player, x.beats); s != x.want || e != api.OK {
			t.Errorf("%s: %v, %d, not %v", x.name, s, e, x.want)
		}
	}
}

// P8.2: who is late at last.
func TestLast(t *testing.T) {
	many := with(func(b *api.DrumBook) {
		b.Players = []api.DrumPlayer{steady(17, 1), steady(16, 1), steady(100, 6), steady(500, 31), player(1, 1, make([]api.Span, 4)...)}
	})
	for _, x := range []struct {
		name string
		b    api.DrumBook
		path []int
		want []int
	}{
		{"the first one", example(), of(1, 1, 1, 2), of(0)},
		{"nobody", example(), of(1, 1, 2, 2), nil},
		{"nobody with another end", example(), of(1, 2, 3, 3), nil},
		{"both", example(), of(1, 0, 0, 0), of(0, 1)},
		{"four of five", many, of(1, 1, 1, 1), of(0, 2, 3, 4)},
		{"all of five", many, of(1, 1, 1, 2), of(0, 1, 2, 3, 4)},
		{"nobody of five", great(), slices.Repeat(of(3), 8), nil},
		{"nobody of one", small(), of(0), nil},
	} {
		if l, e := drum.Last(x.b, x.path); !slices.Equal(l, x.want) || e != api.OK {
			t.Errorf("%s: %v, %d, not %v", x.name, l, e, x.want)
		}
	}
}

// P8.3: what is a plan.
func TestIsPlan(t *testing.T) {
	timed := func(low, high int) api.DrumBook {
		return with(func(b *api.DrumBook) { b.Time = span(low, high) })
	}
	for _, x := range []struct {
		name string
		b    api.DrumBook
		path []int
		want bool
	}{
		{"the plan", example(), of(1, 1, 2, 2), true},
		{"one is late", example(), of(1, 1, 1, 2), false},
		{"it lasts too long", example(), of(1, 2, 2, 2), false},
		{"a part too few", example(), of(1, 1, 2), false},
		{"another end", free(), of(1, 1, 2, 1), false},
		{"another begin", free(), of(2, 2, 2, 2), false},
		{"too great a step", free(), of(1, 3, 3, 2), false},
		{"just as long as the time", timed(320, 320), of(1, 1, 2, 2), true},
		{"as long as the most time", timed(0, 320), of(1, 1, 2, 2), true},
		{"as long as the least time", timed(320, 128000), of(1, 1, 2, 2), true},
		{"longer than the time", timed(0, 319), of(1, 1, 2, 2), false},
		{"not as long as the time", timed(321, 128000), of(1, 1, 2, 2), false},
		{"free", free(), of(1, 0, 1, 2), true},
		{"free up and down", free(), of(1, 2, 3, 2), true},
		{"one part", small(), of(0), true},
		{"great", great(), slices.Repeat(of(3), 8), true},
		{"great, with changes", great(), of(3, 3, 3, 3, 3, 3, 2, 3), true},
	} {
		if is, e := drum.IsPlan(x.b, x.path); is != x.want || e != api.OK {
			t.Errorf("%s: %v, %d", x.name, is, e)
		}
	}
}

// P8.3: the plan with the fewest changes, and how many plans there are.
func TestPlan(t *testing.T) {
	for _, x := range []struct {
		name string
		b    api.DrumBook
		want []int
		many int
	}{
		{"the example", example(), of(1, 1, 2, 2), 1},
		{"the first one of those with one change", free(), of(1, 1, 1, 2), 6},
		{"no change", with(func(b *api.DrumBook) {
			b.End, b.Time, b.Slip, b.Players = 1, span(0, 128000), span(0, 0), []api.DrumPlayer{steady(0, 0)}
		}), of(1, 1, 1, 1), 7},
		{"more changes than the first one in order", with(func(b *api.DrumBook) {
			b.Time, b.Slip, b.Players = span(296, 320), span(0, 0), []api.DrumPlayer{steady(0, 0)}
		}), of(1, 1, 2, 2), 2},
		{"fewer changes than the first one in order", with(func(b *api.DrumBook) {
			b.Time, b.Slip, b.Players = span(264, 288), span(0, 0), []api.DrumPlayer{steady(0, 0)}
		}), of(1, 1, 1, 2), 2},
		{"as many changes, the first one in order", with(func(b *api.DrumBook) {
			b.Parts, b.End, b.Time, b.Slip, b.Players = 3, 1, span(147, 128000), span(0, 0), []api.DrumPlayer{steady(0, 0)}
			b.Beats = of(17, 10, 17, 17)
		}), of(1, 0, 1), 2},
		{"one part", small(), of(0), 1},
		{"great", great(), slices.Repeat(of(3), 8), 127},
		{"only up", with(func(b *api.DrumBook) {
			b.Start, b.End, b.Time, b.Players = 0, 3, span(0, 128000), []api.DrumPlayer{steady(0, 2)}
		}), of(0, 1, 2, 3), 1},
	} {
		if p, e := drum.Plan(x.b); !slices.Equal(p, x.want) || e != api.OK {
			t.Errorf("%s: %v, %d, not %v", x.name, p, e, x.want)
		}
		if n, e := drum.Plans(x.b); n != x.many || e != api.OK {
			t.Errorf("%s: %d, %d, not %d", x.name, n, e, x.many)
		}
	}
}

// P8.4: how late a player can be.
func TestBound(t *testing.T) {
	for _, x := range []struct {
		name   string
		b      api.DrumBook
		player int
		want   int
		e      api.Errno
	}{
		{"the first one", example(), 0, 6, api.OK},
		{"the other one", example(), 1, 14, api.OK},
		{"who is too late", with(func(b *api.DrumBook) { b.Players[0].Late = span(300, 400) }), 0, 6, api.OK},
		{"when the other one is too late", with(func(b *api.DrumBook) { b.Players[0].Late = span(300, 400) }), 1, 0, api.ErrNone},
		{"who is less late", with(func(b *api.DrumBook) { b.Players[0].Late = span(1, 1) }), 0, 6, api.OK},
		{"the plan with more changes", with(func(b *api.DrumBook) { b.Time, b.Slip = span(0, 128000), span(0, 0) }), 0, 12, api.OK},
		{"just 0", free(), 0, 0, api.OK},
		{"no more than 500", great(), 0, 500, api.OK},
		{"no more than 500, of whom more would do", with(func(b *api.DrumBook) { b.Players[0] = steady(3, 100) }), 0, 500, api.OK},
		{"one beat", with(func(b *api.DrumBook) {
			b.Parts, b.Size, b.End, b.Time, b.Notice = 1, 1, 1, span(16, 16), 1
			b.Players = []api.DrumPlayer{player(0, 0, span(0, 0), span(99, 100), span(0, 0), span(0, 0))}
		}), 0, 99, api.OK},
		{"just 499", with(func(b *api.DrumBook) {
			b.Parts, b.Size, b.Slip, b.Time = 2, 5, span(0, 1), span(0, 128000)
			b.Players = []api.DrumPlayer{player(0, 0, span(0, 0), span(0, 100), span(100, 100), span(0, 0))}
		}), 0, 499, api.OK},
		{"0, with a time that no path lasts", with(func(b *api.DrumBook) { b.Time = span(0, 0) }), 0, 0, api.ErrNone},
		{"who slips too much", with(func(b *api.DrumBook) {
			b.Time, b.Slip, b.Players = span(0, 128000), span(0, 5), []api.DrumPlayer{steady(0, 0)}
		}), 0, 0, api.ErrNone},
	} {
		if n, e := drum.Bound(x.b, x.player); n != x.want || e != x.e {
			t.Errorf("%s: %d, %d, not %d, %d", x.name, n, e, x.want, x.e)
		}
	}
}

// P8.5: what the drum says.
func TestCues(t *testing.T) {
	cue := func(beat, way int) api.DrumCue { return api.DrumCue{Beat: beat, Way: way} }
	list := func(cues ...api.DrumCue) []api.DrumCue { return cues }
	noticed := func(n int) api.DrumBook { return with(func(b *api.DrumBook) { b.Notice = n }) }
	for _, x := range []struct {
		name string
		b    api.DrumBook
		path []int
		want []api.DrumCue
	}{
		{"the plan", example(), of(1, 1, 2, 2), list(cue(6, up))},
		{"no plan", example(), of(1, 0, 1, 2), list(cue(2, down), cue(6, up), cue(10, up))},
		{"no change", example(), of(1, 1, 1, 1), nil},
		{"just before the mark", noticed(1), of(1, 2, 1, 1), list(cue(3, up), cue(7, down))},
		{"a whole part before it", noticed(4), of(1, 2, 1, 2), list(cue(0, up), cue(4, down), cue(8, up))},
		{"the last mark", noticed(3), of(1, 1, 1, 0), list(cue(9, down))},
		{"great", great(), of(3, 2, 3, 3, 3, 3, 3, 2), list(cue(0, down), cue(16, up), cue(96, down))},
		{"one part", small(), of(0), nil},
	} {
		if c, e := drum.Cues(x.b, x.path); !slices.Equal(c, x.want) || e != api.OK {
			t.Errorf("%s: %v, %d, not %v", x.name, c, e, x.want)
		}
	}
}

// P8.6: what a listener knows.
func TestKnows(t *testing.T) {
	for _, x := range []struct {
		name  string
		b     api.DrumBook
		heard []int
		part  int
		want  []int
	}{
		{"the example", example(), of(lost, lost, same), 2, of(2)},
		{"all that was heard", example(), of(same, up, same), 1, of(1)},
		{"all was lost", example(), of(lost, lost, lost), 3, of(2)},
		{"free, all was lost, the first part", free(), of(lost, lost, lost), 0, of(1)},
		{"free, all was lost, the second part", free(), of(lost, lost, lost), 1, of(0, 1, 2)},
		{"free, all was lost, the third part", free(), of(lost, lost, lost), 2, of(1, 2, 3)},
		{"free, all was lost, the last part", free(), of(lost, lost, lost), 3, of(2)},
		{"free, down at first", free(), of(down, lost, lost), 2, of(1)},
		{"free, down at last", free(), of(lost, lost, down), 2, of(3)},
		{"free, down at last, the part before", free(), of(lost, lost, down), 1, of(2)},
		{"free, up at last", free(), of(lost, lost, up), 1, of(0, 1, 2)},
		{"free, no change in the middle", free(), of(lost, same, lost), 1, of(1, 2)},
		{"free, up in the middle", free(), of(lost, up, lost), 2, of(1, 2, 3)},
		{"free, down in the middle", free(), of(lost, down, lost), 2, of(1)},
		{"one part", small(), nil, 0, of(0)},
	} {
		if k, e := drum.Knows(x.b, x.heard, x.part); !slices.Equal(k, x.want) || e != api.OK {
			t.Errorf("%s: %v, %d, not %v", x.name, k, e, x.want)
		}
	}
	for _, h := range [][]int{of(down, down, lost), of(up, up, up), of(down, lost, same), of(down, lost, down), of(lost, down, same), of(same, same, same)} {
		if k, e := drum.Knows(free(), h, 2); len(k) != 0 || e != api.ErrNone {
			t.Errorf("%v: %v, %d", h, k, e)
		}
	}
}

// copied returns a book that shares no memory with another one.
func copied(b api.DrumBook) api.DrumBook {
	b.Beats, b.Players = slices.Clone(b.Beats), slices.Clone(b.Players)
	for i := range b.Players {
		b.Players[i].Catch = slices.Clone(b.Players[i].Catch)
	}
	return b
}

// P8.7: arguments are only read, also behind their ends.
func TestArguments(t *testing.T) {
	b, q := example(), ordinary()
	players := append(b.Players, player(7, 7))
	catch := append(b.Players[0].Catch, span(7, 7))
	beats, path, heard := append(b.Beats, 7), append(q.path, 7), append(q.heard, 7)
	b.Players, b.Beats, q.path, q.heard = players[:2], beats[:4], path[:4], heard[:3]
	b.Players[0].Catch = catch[:4]
	for who := range 2 {
		q.player = who
		answers(b, q)
		if want := asking(func(q *question) { q.player = who }); !reflect.DeepEqual(b, example()) || !reflect.DeepEqual(q, want) {
			t.Errorf("%v, %v were %v, %v", b, q, example(), want)
		}
	}
	if !reflect.DeepEqual(players[2], player(7, 7)) || catch[4] != span(7, 7) || beats[4] != 7 || path[4] != 7 || heard[3] != 7 {
		t.Errorf("behind the arguments: %v, %v, %v, %v, %v", players, catch, beats, path, heard)
	}
}

// P8.7, R4: results share no memory, neither with an argument nor with a later call, and arguments are not retained.
func TestMemory(t *testing.T) {
	b := copied(free())
	path, heard := of(1, 0, 0, 0), of(lost, lost, lost)
	b.Players = append(b.Players, player(1, 1, make([]api.Span, 4)...))
	l, _ := drum.Last(b, path)
	c, _ := drum.Cues(b, path)
	b.Players = b.Players[:1]
	p, _ := drum.Plan(b)
	k, _ := drum.Knows(b, heard, 1)
	if !slices.Equal(l, of(1)) || len(c) != 1 || !slices.Equal(p, of(1, 1, 1, 2)) || !slices.Equal(k, of(0, 1, 2)) {
		t.Fatalf("%v, %v, %v, %v", l, c, p, k)
	}
	q := question{path: path, heard: heard, part: 1}
	want, _ := answers(b, q)
	for _, list := range [][]int{append(p, -9), append(k, -9), p, k, l} {
		for i := range list {
			list[i] = -9
		}
	}
	c[0] = api.DrumCue{Beat: -9, Way: -9}
	if !reflect.DeepEqual(b, free()) || !slices.Equal(path, of(1, 0, 0, 0)) || !slices.Equal(heard, of(lost, lost, lost)) {
		t.Errorf("%v, %v, %v were changed with results", b, path, heard)
	}
	if again, _ := answers(b, q); !reflect.DeepEqual(again, want) {
		t.Errorf("%v after results were changed, not %v", again, want)
	}
	b.Beats[1], b.Players[0].Catch[0], path[1], heard[0] = 1000, span(9, 9), 2, up
	if again, _ := answers(free(), question{path: of(1, 0, 0, 0), heard: of(lost, lost, lost), part: 1}); !reflect.DeepEqual(again, want) {
		t.Errorf("%v after arguments were changed, not %v", again, want)
	}
}

// R3: nil and empty are the same.
func TestNilAndEmpty(t *testing.T) {
	for _, b := range []api.DrumBook{example(), small(), {}, with(func(b *api.DrumBook) { b.Players, b.Beats = nil, nil })} {
		one, e := answers(b, question{})
		q := question{path: []int{}, heard: []int{}}
		if b.Players == nil {
			b.Players, b.Beats = []api.DrumPlayer{}, []int{}
		}
		other, f := answers(b, q)
		if !reflect.DeepEqual(one, other) || e != f {
			t.Errorf("%v: %v, %v, not %v, %v", b, other, f, one, e)
		}
	}
	if k, e := drum.Knows(small(), []int{}, 0); !slices.Equal(k, of(0)) || e != api.OK {
		t.Errorf("Knows of one part: %v, %d", k, e)
	}
}

// P2: a call says the same, whatever was called before.
func TestSameAgain(t *testing.T) {
	books := []api.DrumBook{example(), free(), great(), small(), {}}
	for _, b := range books {
		first, e := answers(b, ordinary())
		for _, between := range books {
			answers(between, question{path: slices.Repeat(of(3), 8), heard: make([]int, 7), player: 3, beats: 128, part: 7})
		}
		if again, f := answers(b, ordinary()); !reflect.DeepEqual(first, again) || e != f {
			t.Errorf("%v: %v, and then %v", b, first, again)
		}
	}
}
