package night_test

import (
	"math"
	"reflect"
	"slices"
	"strconv"
	"testing"

	"saron/api"
	"saron/night"
)

const left = api.NightLeft

func of(numbers ...int) []int { return numbers }

func span(low, high int) api.Span { return api.Span{Low: low, High: high} }

func scene(part, low, high, weight int) api.NightScene {
	return api.NightScene{Part: part, Long: span(low, high), Weight: weight}
}

func must(s api.NightScene) api.NightScene {
	s.Must = true
	return s
}

// example is the book of the chapter's examples.
func example() api.NightBook {
	return api.NightBook{
		Begin: 10, Opens: of(0, 180, 360), Ends: of(200, 380, 540),
		Scenes: []api.NightScene{
			must(scene(0, 60, 80, 5)), scene(0, 50, 70, 2), scene(0, 40, 60, 3),
			must(scene(1, 90, 120, 4)), scene(1, 60, 90, 3),
			must(scene(2, 60, 70, 6)), scene(2, 80, 100, 2), scene(2, 30, 50, 1),
		},
		Fee: 1003, Loads: of(40, 60, 50, 30), Cart: 100, Cost: 50, Feast: 20, Shares: of(3, 2, 2),
	}
}

// with returns the book of the examples after a change.
func with(change func(b *api.NightBook)) api.NightBook {
	b := example()
	change(&b)
	return b
}

// alone is a book of these scenes, in parts that are always open until they end.
func alone(ends []int, scenes ...api.NightScene) api.NightBook {
	return with(func(b *api.NightBook) { b.Begin, b.Opens, b.Ends, b.Scenes = 0, of(0, 0, 0), ends, scenes })
}

// from is the book of a play that begins in this minute.
func from(begin int, b api.NightBook) api.NightBook {
	b.Begin = begin
	return b
}

// carried is the book of the examples with other loads.
func carried(cart int, loads ...int) api.NightBook {
	return with(func(b *api.NightBook) { b.Cart, b.Loads = cart, loads })
}

// paying is a book with this rest of its fee, and these shares.
func paying(rest int, shares ...int) api.NightBook {
	return with(func(b *api.NightBook) { b.Fee, b.Loads, b.Feast, b.Shares = rest, nil, 0, shares })
}

// great is a book as great as can be.
func great() api.NightBook {
	return api.NightBook{
		Begin: 2000, Opens: of(2000, 2000, 2000), Ends: of(2000, 2000, 2000), Scenes: slices.Repeat([]api.NightScene{scene(2, 600, 600, 100)}, 10),
		Fee: 100000, Loads: slices.Repeat(of(500), 8), Cart: 500, Cost: 100000, Feast: 100000, Shares: slices.Repeat(of(100), 12),
	}
}

// small is a book as small as can be.
func small() api.NightBook {
	return api.NightBook{Opens: make([]int, 3), Ends: make([]int, 3), Scenes: make([]api.NightScene, 1), Cart: 1, Shares: of(1)}
}

func validBooks() map[string]api.NightBook {
	return map[string]api.NightBook{
		"the example":          example(),
		"great":                great(),
		"small":                small(),
		"all must be played":   alone(of(0, 0, 0), slices.Repeat([]api.NightScene{must(scene(1, 0, 600, 0))}, 10)...),
		"an end before all":    with(func(b *api.NightBook) { b.Ends = of(0, 0, 0) }),
		"openings in any way":  with(func(b *api.NightBook) { b.Opens = of(2000, 0, 1000) }),
		"ends in any way":      with(func(b *api.NightBook) { b.Ends = of(2000, 0, 1000) }),
		"no loads":             carried(1),
		"a load is too heavy":  carried(1, 2),
		"the fee is too small": with(func(b *api.NightBook) { b.Fee = 0 }),
		"no first part":        with(func(b *api.NightBook) { b.Scenes = b.Scenes[3:] }),
		"no part between":      with(func(b *api.NightBook) { b.Scenes = slices.Delete(b.Scenes, 3, 5) }),
	}
}

func wrongBooks() map[string]api.NightBook {
	books := map[string]api.NightBook{"nothing": {}}
	for name, change := range map[string]func(b *api.NightBook){
		"no openings":            func(b *api.NightBook) { b.Opens = nil },
		"2 openings":             func(b *api.NightBook) { b.Opens = b.Opens[:2] },
		"4 openings":             func(b *api.NightBook) { b.Opens = append(b.Opens, 400) },
		"no ends":                func(b *api.NightBook) { b.Ends = nil },
		"2 ends":                 func(b *api.NightBook) { b.Ends = b.Ends[:2] },
		"4 ends":                 func(b *api.NightBook) { b.Ends = append(b.Ends, 600) },
		"no scenes":              func(b *api.NightBook) { b.Scenes = nil },
		"11 scenes":              func(b *api.NightBook) { b.Scenes = make([]api.NightScene, 11) },
		"far too many scenes":    func(b *api.NightBook) { b.Scenes = make([]api.NightScene, 100000) },
		"a scene in part 3":      func(b *api.NightBook) { b.Scenes[7].Part = 3 },
		"a scene in part -1":     func(b *api.NightBook) { b.Scenes[0].Part = -1 },
		"a part before":          func(b *api.NightBook) { b.Scenes[7].Part = 1 },
		"the first in part 2":    func(b *api.NightBook) { b.Scenes[0].Part = 2 },
		"a span without numbers": func(b *api.NightBook) { b.Scenes[4].Long = span(91, 90) },
		"9 loads":                func(b *api.NightBook) { b.Loads = slices.Repeat(of(1), 9) },
		"no shares":              func(b *api.NightBook) { b.Shares = nil },
		"13 shares":              func(b *api.NightBook) { b.Shares = slices.Repeat(of(1), 13) },
		"two things":             func(b *api.NightBook) { b.Begin, b.Shares = -1, nil },
	} {
		books[name] = with(change)
	}
	for name, x := range map[string]struct {
		least, most int
		set         func(b *api.NightBook, n int)
	}{
		"begin":          {0, 2000, func(b *api.NightBook, n int) { b.Begin = n }},
		"first opening":  {0, 2000, func(b *api.NightBook, n int) { b.Opens[0] = n }},
		"last opening":   {0, 2000, func(b *api.NightBook, n int) { b.Opens[2] = n }},
		"first end":      {0, 2000, func(b *api.NightBook, n int) { b.Ends[0] = n }},
		"last end":       {0, 2000, func(b *api.NightBook, n int) { b.Ends[2] = n }},
		"part":           {1, 2, func(b *api.NightBook, n int) { b.Scenes[4].Part = n }},
		"weight":         {0, 100, func(b *api.NightBook, n int) { b.Scenes[0].Weight = n }},
		"last weight":    {0, 100, func(b *api.NightBook, n int) { b.Scenes[7].Weight = n }},
		"least minutes":  {0, 80, func(b *api.NightBook, n int) { b.Scenes[0].Long.Low = n }},
		"most minutes":   {30, 600, func(b *api.NightBook, n int) { b.Scenes[7].Long.High = n }},
		"fee":            {0, 100000, func(b *api.NightBook, n int) { b.Fee = n }},
		"first load":     {1, 500, func(b *api.NightBook, n int) { b.Loads[0] = n }},
		"last load":      {1, 500, func(b *api.NightBook, n int) { b.Loads[3] = n }},
		"cart":           {1, 500, func(b *api.NightBook, n int) { b.Cart = n }},
		"cost":           {0, 100000, func(b *api.NightBook, n int) { b.Cost = n }},
		"feast":          {0, 100000, func(b *api.NightBook, n int) { b.Feast = n }},
		"first share":    {1, 100, func(b *api.NightBook, n int) { b.Shares[0] = n }},
		"last share":     {1, 100, func(b *api.NightBook, n int) { b.Shares[2] = n }},
		"a single load":  {1, 500, func(b *api.NightBook, n int) { b.Loads = of(n) }},
		"a single share": {1, 100, func(b *api.NightBook, n int) { b.Shares = of(n) }},
	} {
		for _, n := range of(x.least-1, x.most+1, math.MinInt, math.MaxInt) {
			books[name+" "+strconv.Itoa(n)] = with(func(b *api.NightBook) { x.set(b, n) })
		}
	}
	return books
}

// question is what the functions are asked of a book.
type question struct{ choice, done, long []int }

func ordinary() question {
	return question{choice: of(1, 4, 7), done: of(60, 50), long: of(60, 50, 40, 90, 60, 60, 80, 30)}
}

// The numbers of the functions, in the order of the chapter.
const (
	ends = iota
	fits
	leave
	cue
	play
	spare
	carts
	pay
	functions
)

// answers returns what each function says of a book, and the error of it.
func answers(b api.NightBook, q question) ([functions]any, [functions]api.Errno) {
	var results [functions]any
	var errors [functions]api.Errno
	results[ends], errors[ends] = night.Ends(b, q.choice)
	results[fits], errors[fits] = night.Fits(b, q.choice)
	results[leave], errors[leave] = night.Leave(b)
	results[cue], errors[cue] = night.Cue(b, q.done)
	results[play], errors[play] = night.Play(b, q.long)
	results[spare], errors[spare] = night.Spare(b)
	results[carts], errors[carts] = night.Carts(b)
	results[pay], errors[pay] = night.Pay(b)
	return results, errors
}

// wantErrors checks the errors of all functions, and that what comes with an error is zero (R2).
func wantErrors(t *testing.T, name string, b api.NightBook, q question, want [functions]api.Errno) {
	t.Helper()
	results, errors := answers(b, q)
	if errors != want {
		t.Errorf("%s: the errors are %v, not %v", name, errors, want)
	}
	for i, r := range results {
		v := reflect.ValueOf(r)
		empty := v.IsZero() || v.Kind() == reflect.Slice && v.Len() == 0
		if errors[i] != api.OK && !empty {
			t.Errorf("%s: the result %d comes with an error: %v", name, i, r)
		}
	}
}

// P10.1: what is valid.
func TestCheck(t *testing.T) {
	for name, b := range validBooks() {
		if e := night.Check(b); e != api.OK {
			t.Errorf("%s: %d", name, e)
		}
	}
	for name, b := range wrongBooks() {
		if e := night.Check(b); e != api.ErrNight {
			t.Errorf("%s: %d", name, e)
		}
	}
}

// P10.1 to P10.6, R1, R2: the error of a wrong book comes first.
func TestWrongBooks(t *testing.T) {
	var bad [functions]api.Errno
	for i := range bad {
		bad[i] = api.ErrNight
	}
	worst := question{choice: of(0), done: of(left), long: of(60)}
	for name, b := range wrongBooks() {
		wantErrors(t, name, b, worst, bad)
		wantErrors(t, name, b, ordinary(), bad)
		wantErrors(t, name, b, question{}, bad)
	}
	wantErrors(t, "the ordinary question", example(), ordinary(), [functions]api.Errno{})
	const ask = api.ErrNightAsk
	wantErrors(t, "all that is wrong", example(), worst, [functions]api.Errno{ends: ask, fits: ask, cue: ask, play: ask})
}

// P10.1, R1, R2: what is no choice.
func TestWrongChoices(t *testing.T) {
	const ask = api.ErrNightAsk
	for _, l := range [][]int{
		of(0), of(3), of(5), of(-1), of(8), of(1, 8), of(-1, 1), of(4, 1), of(1, 1), of(1, 2, 2), of(1, 2, 3, 4), of(0, 1), of(1, 4, 6, 5),
		of(1, 2, 4, 6, 7, 8), of(math.MinInt), of(math.MaxInt), of(1, math.MaxInt), make([]int, 1000), slices.Repeat(of(1), 1000),
	} {
		q := ordinary()
		q.choice = l
		wantErrors(t, "no choice", example(), q, [functions]api.Errno{ends: ask, fits: ask})
	}
}

// P10.3, R1, R2: what cannot have been done; this comes before there being no choice that fits.
func TestWrongDone(t *testing.T) {
	const ask, none = api.ErrNightAsk, api.ErrNone
	never := with(func(b *api.NightBook) { b.Ends = of(0, 0, 0) })
	for _, l := range [][]int{
		of(left), of(59), of(81), of(60, 49), of(60, 71), of(60, -2), of(0), of(60, 0), of(80, left, left, left), of(math.MinInt), of(60, math.MaxInt),
		of(60, 50, 40, 90, 60, left), of(60, 50, 40, 90, 60, 60, 80, 51), of(60, 50, 40, 90, 60, 60, 80, 30, 0),
		of(60, 50, 40, 90, 60, 60, 80, 30, left), make([]int, 1000), slices.Repeat(of(60), 1000),
	} {
		q := ordinary()
		q.done = l
		wantErrors(t, "what cannot be done", example(), q, [functions]api.Errno{cue: ask})
		wantErrors(t, "what cannot be done, and no choice", never, q, [functions]api.Errno{leave: none, cue: ask, play: none, spare: none})
	}
}

// P10.4, R1, R2: what cannot be played; this comes before there being no choice that fits.
func TestWrongPlays(t *testing.T) {
	const ask, none = api.ErrNightAsk, api.ErrNone
	never := with(func(b *api.NightBook) { b.Ends = of(0, 0, 0) })
	for _, change := range []func(l []int) []int{
		func(l []int) []int { return nil },
		func(l []int) []int { return l[:7] },
		func(l []int) []int { return append(l, 30) },
		func(l []int) []int { return slices.Repeat(l, 1000) },
		func(l []int) []int { return append(of(59), l[1:]...) },
		func(l []int) []int { return append(of(81), l[1:]...) },
		func(l []int) []int { return append(l[:7], 29) },
		func(l []int) []int { return append(l[:7], 51) },
		// A scene that is left out also has a number, and not this one.
		func(l []int) []int { return append(l[:7], left) },
		func(l []int) []int { return append(of(left), l[1:]...) },
		func(l []int) []int { return append(l[:7], math.MaxInt) },
		func(l []int) []int { return append(of(math.MinInt), l[1:]...) },
	} {
		q := ordinary()
		q.long = change(q.long)
		wantErrors(t, "what cannot be played", example(), q, [functions]api.Errno{play: ask})
		wantErrors(t, "what cannot be played, and no choice", never, q, [functions]api.Errno{leave: none, cue: none, play: ask, spare: none})
	}
}

// P10.2 to P10.5, R2: where no choice fits.
func TestNone(t *testing.T) {
	all := [functions]api.Errno{leave: api.ErrNone, cue: api.ErrNone, play: api.ErrNone, spare: api.ErrNone}
	for name, b := range map[string]api.NightBook{
		"the first part":                with(func(b *api.NightBook) { b.Ends[0] = 89 }),
		"the second part":               with(func(b *api.NightBook) { b.Ends[1] = 299 }),
		"the last part":                 with(func(b *api.NightBook) { b.Ends[2] = 429 }),
		"a late beginning":              with(func(b *api.NightBook) { b.Begin = 121 }),
		"a late opening":                with(func(b *api.NightBook) { b.Opens[0] = 121 }),
		"the second opening":            with(func(b *api.NightBook) { b.Opens[1] = 261 }),
		"the last opening":              with(func(b *api.NightBook) { b.Opens[2] = 471 }),
		"too long at the worst":         with(func(b *api.NightBook) { b.Scenes[0].Long.High = 191 }),
		"the last part ends before":     with(func(b *api.NightBook) { b.Ends[2] = 0 }),
		"a minute later than it can be": with(func(b *api.NightBook) { b.Begin, b.Ends[0] = 11, 90 }),
	} {
		q := ordinary()
		q.done = nil
		wantErrors(t, name, b, q, all)
	}
	for name, b := range map[string]api.NightBook{
		"nothing else can be": alone(of(0, 2000, 2000), must(scene(0, 0, 1, 0))),
		"an empty first part": from(1, alone(of(0, 2000, 2000), must(scene(1, 0, 0, 0)))),
		"an empty part":       alone(of(2000, 9, 2000), must(scene(0, 0, 10, 0))),
		"an empty last part":  alone(of(2000, 2000, 9), must(scene(0, 10, 10, 0))),
	} {
		q := question{long: of(b.Scenes[0].Long.Low)}
		wantErrors(t, name, b, q, all)
	}
	// Each scene alone can be left out, but the part opens after its end.
	shut := with(func(b *api.NightBook) {
		b.Opens[1], b.Ends[1], b.Scenes = 181, 180, []api.NightScene{scene(0, 0, 0, 0)}
	})
	wantErrors(t, "a part that opens too late", shut, question{long: of(0)}, all)
}

// P10.6, R1, R2: loads that are too heavy, and a fee that is not enough.
func TestWrongPay(t *testing.T) {
	heavy := [functions]api.Errno{carts: api.ErrNone, pay: api.ErrNone}
	wantErrors(t, "the heaviest load", carried(59, 40, 60, 50, 30), ordinary(), heavy)
	wantErrors(t, "all loads", carried(1, 40, 60, 50, 30), ordinary(), heavy)
	wantErrors(t, "the last load", carried(499, 1, 1, 500), ordinary(), heavy)
	wantErrors(t, "too heavy and no fee", with(func(b *api.NightBook) { b.Cart, b.Fee = 59, 0 }), ordinary(), heavy)
	short := [functions]api.Errno{pay: api.ErrNightShort}
	wantErrors(t, "one coin too few", with(func(b *api.NightBook) { b.Fee = 159 }), ordinary(), short)
	wantErrors(t, "no fee", with(func(b *api.NightBook) { b.Fee = 0 }), ordinary(), short)
	wantErrors(t, "carts", with(func(b *api.NightBook) { b.Cost = 472 }), ordinary(), short)
	wantErrors(t, "feasts", with(func(b *api.NightBook) { b.Feast = 302 }), ordinary(), short)
	wantErrors(t, "a fee that is just enough", with(func(b *api.NightBook) { b.Fee = 160 }), ordinary(), [functions]api.Errno{})
	if _, e := night.Pay(great()); e != api.ErrNightShort {
		t.Errorf("Pay of the great book: %d", e)
	}
}

// P10.1: when parts end, and what fits.
func TestEnds(t *testing.T) {
	for _, x := range []struct {
		name   string
		b      api.NightBook
		choice []int
		want   []api.Span
		fits   bool
	}{
		{"the example", example(), of(1, 4, 7), []api.Span{span(110, 150), span(270, 300), span(500, 530)}, true},
		{"another choice", example(), of(2, 4, 7), []api.Span{span(120, 160), span(270, 300), span(500, 530)}, true},
		{"a choice that does not fit", example(), of(1, 4), []api.Span{span(110, 150), span(270, 300), span(530, 580)}, false},
		{"all are played", example(), nil, []api.Span{span(160, 220), span(330, 430), span(530, 650)}, false},
		{"all that can be are left out", example(), of(1, 2, 4, 6, 7), []api.Span{span(70, 90), span(270, 300), span(420, 430)}, true},
		{"just in time", with(func(b *api.NightBook) { b.Ends = of(150, 300, 530) }), of(1, 4, 7), []api.Span{span(110, 150), span(270, 300), span(500, 530)}, true},
		{"the first part a minute too late", with(func(b *api.NightBook) { b.Ends[0] = 149 }), of(1, 4, 7), []api.Span{span(110, 150), span(270, 300), span(500, 530)}, false},
		{"the second part a minute too late", with(func(b *api.NightBook) { b.Ends[1] = 299 }), of(1, 4, 7), []api.Span{span(110, 150), span(270, 300), span(500, 530)}, false},
		{"the last part a minute too late", with(func(b *api.NightBook) { b.Ends[2] = 529 }), of(1, 4, 7), []api.Span{span(110, 150), span(270, 300), span(500, 530)}, false},
		{"the beginning after the opening", with(func(b *api.NightBook) { b.Begin, b.Opens[0] = 31, 30 }), of(1, 2, 4, 6, 7), []api.Span{span(91, 111), span(270, 300), span(420, 430)}, true},
		{"the beginning before the opening", with(func(b *api.NightBook) { b.Begin, b.Opens[0] = 30, 31 }), of(1, 2, 4, 6, 7), []api.Span{span(91, 111), span(270, 300), span(420, 430)}, true},
		{"an opening between", with(func(b *api.NightBook) { b.Opens[1] = 80 }), of(1, 2, 4, 6, 7), []api.Span{span(70, 90), span(170, 210), span(420, 430)}, true},
		{"no wait", with(func(b *api.NightBook) { b.Opens = of(0, 0, 0) }), of(1, 4, 7), []api.Span{span(110, 150), span(200, 270), span(340, 440)}, true},
		{"openings that fall", with(func(b *api.NightBook) { b.Opens = of(400, 300, 200) }), of(1, 2, 4, 6, 7), []api.Span{span(460, 480), span(550, 600), span(610, 670)}, false},
		{"parts without scenes", alone(of(10, 10, 10), scene(0, 1, 10, 0)), nil, []api.Span{span(1, 10), span(1, 10), span(1, 10)}, true},
		{"an empty part opens", with(func(b *api.NightBook) { b.Scenes = b.Scenes[:3] }), of(1, 2), []api.Span{span(70, 90), span(180, 180), span(360, 360)}, true},
		{"an empty part opens too late", with(func(b *api.NightBook) { b.Scenes, b.Ends[1] = b.Scenes[:3], 179 }), of(1, 2), []api.Span{span(70, 90), span(180, 180), span(360, 360)}, false},
		{"only the last part", with(func(b *api.NightBook) { b.Begin, b.Scenes = 350, b.Scenes[5:] }), of(1), []api.Span{span(350, 350), span(350, 350), span(450, 480)}, false},
		{"the greatest", great(), nil, []api.Span{span(2000, 2000), span(2000, 2000), span(8000, 8000)}, false},
		{"nothing of the greatest", great(), of(0, 1, 2, 3, 4, 5, 6, 7, 8, 9), slices.Repeat([]api.Span{span(2000, 2000)}, 3), true},
		{"the smallest", small(), nil, make([]api.Span, 3), true},
		{"nothing of the smallest", small(), of(0), make([]api.Span, 3), true},
	} {
		if l, e := night.Ends(x.b, x.choice); !slices.Equal(l, x.want) || e != api.OK {
			t.Errorf("Ends of %s: %v, %d, not %v", x.name, l, e, x.want)
		}
		if is, e := night.Fits(x.b, x.choice); is != x.fits || e != api.OK {
			t.Errorf("Fits of %s: %v, %d", x.name, is, e)
		}
	}
}

// P10.2: the choice with the least weight, then the fewest scenes, then the first one.
func TestLeave(t *testing.T) {
	for _, x := range []struct {
		name string
		b    api.NightBook
		want []int
	}{
		{"the example", example(), of(1, 4, 7)},
		{"time enough", with(func(b *api.NightBook) { b.Ends = of(220, 430, 650) }), nil},
		{"a minute too little", with(func(b *api.NightBook) { b.Ends = of(220, 430, 649) }), of(7)},
		{"a minute too little for the first part", with(func(b *api.NightBook) { b.Ends = of(219, 2000, 2000) }), of(1)},
		{"the least weight, by many scenes", alone(of(20, 20, 20), scene(0, 20, 20, 3), scene(0, 10, 10, 1), scene(0, 10, 10, 1)), of(1, 2)},
		{"of the same weight the fewest scenes", alone(of(20, 20, 20), scene(0, 10, 10, 1), scene(0, 10, 10, 1), scene(0, 20, 20, 2)), of(2)},
		{"of as few scenes the first ones", alone(of(10, 10, 10), scene(0, 10, 10, 2), scene(0, 10, 10, 2)), of(0)},
		{"the first ones, by the second one", alone(of(20, 20, 20), scene(0, 10, 10, 2), scene(0, 10, 10, 2), scene(0, 10, 10, 2), scene(0, 10, 10, 2)), of(0, 1)},
		{"not the first ones by their numbers alone", alone(of(20, 20, 20), scene(0, 5, 5, 1), scene(0, 15, 15, 1), scene(0, 15, 15, 1), scene(0, 5, 5, 1)), of(0, 1)},
		{"the first one decides", alone(of(14, 14, 14), scene(0, 4, 4, 1), scene(0, 6, 6, 1), scene(0, 6, 6, 1), scene(0, 9, 9, 1)), of(0, 3)},
		{"no scene without need, of no weight", alone(of(10, 10, 10), scene(0, 5, 5, 0), scene(0, 5, 5, 0)), nil},
		{"one scene of no weight", alone(of(9, 9, 9), scene(0, 5, 5, 7), scene(0, 5, 5, 0), scene(0, 5, 5, 0)), of(1, 2)},
		{"a scene that must be played", alone(of(10, 10, 10), must(scene(0, 10, 10, 0)), scene(0, 1, 1, 100)), of(1)},
		{"a scene of a part before helps", alone(of(30, 30, 30), scene(0, 20, 20, 1), must(scene(1, 20, 20, 9))), of(0)},
		{"a scene of a part before does not help", with(func(b *api.NightBook) {
			b.Opens, b.Ends, b.Scenes = of(0, 100, 200), of(50, 110, 300), []api.NightScene{scene(0, 20, 20, 1), scene(1, 20, 20, 9)}
		}), of(1)},
		{"the worst counts", alone(of(10, 10, 10), scene(0, 0, 11, 5)), of(0)},
		{"nothing of the greatest", great(), of(0, 1, 2, 3, 4, 5, 6, 7, 8, 9)},
		{"the smallest", small(), nil},
	} {
		if l, e := night.Leave(x.b); !slices.Equal(l, x.want) || e != api.OK {
			t.Errorf("Leave of %s: %v, %d, not %v", x.name, l, e, x.want)
		}
	}
}

// P10.3: what is left out from now on.
func TestCue(t *testing.T) {
	tight := alone(of(10, 10, 10), scene(0, 5, 8, 3), scene(0, 2, 4, 2), scene(0, 1, 3, 1))
	for _, x := range []struct {
		name string
		b    api.NightBook
		done []int
		want []int
		e    api.Errno
	}{
		{"nothing", example(), nil, of(1, 4, 7), api.OK},
		{"60", example(), of(60), of(4, 7), api.OK},
		{"61", example(), of(61), of(1, 4, 7), api.OK},
		{"80", example(), of(80), of(1, 4, 7), api.OK},
		{"80 left 60", example(), of(80, left, 60), of(4, 7), api.OK},
		{"60 50 40 90", example(), of(60, 50, 40, 90), of(7), api.OK},
		{"60 50 40 90 90", example(), of(60, 50, 40, 90, 90), of(7), api.OK},
		{"60 50 40 111", example(), of(60, 50, 40, 111), of(4, 7), api.OK},
		{"60 50 40 110", example(), of(60, 50, 40, 110), of(6), api.OK},
		{"60 50 40 101", example(), of(60, 50, 40, 101), of(6), api.OK},
		{"60 50 40 100", example(), of(60, 50, 40, 100), of(7), api.OK},
		{"the last one can be too long", example(), of(60, 50, 40, 90, 60, 60, 80), of(7), api.OK},
		{"the last one is played", example(), of(60, 50, 40, 90, 60, 60, left), nil, api.OK},
		{"the last one is too long", example(), of(60, 50, 40, 90, 60, 60, 100), of(7), api.OK},
		{"all are done", example(), of(60, 50, 40, 90, 60, 60, 80, 30), nil, api.OK},
		{"all are done, or left", example(), of(80, 70, left, 120, left, 70, left, 50), nil, api.OK},
		{"all are done, too late", example(), of(60, 50, 40, 90, 60, 70, 100, 50), nil, api.ErrNone},
		{"all are done, the first part too late", example(), of(80, 70, 60, 90, left, 60, left, left), nil, api.ErrNone},
		{"a part is too late", example(), of(80, 70, 60), nil, api.ErrNone},
		{"a part is not too late", example(), of(80, 60, 50), of(4, 7), api.OK},
		{"the next part cannot be in time", example(), of(60, 50, 40, 120, 81), nil, api.ErrNone},
		{"more was left than was told", example(), of(60, left, left, 90, left, 60, left), nil, api.OK},
		{"long at first", tight, of(8), of(1, 2), api.OK},
		{"at first", tight, nil, of(0), api.OK},
		{"short at first", tight, of(5), of(2), api.OK},
		{"a minute longer", tight, of(6), of(2), api.OK},
		{"two minutes longer", tight, of(7), of(1), api.OK},
		{"left at first", tight, of(left), nil, api.OK},
		{"a scene of no minutes that is not left", small(), of(0), nil, api.OK},
		{"a scene of no minutes that is left", small(), of(left), nil, api.OK},
		{"ties as above", alone(of(20, 20, 20), scene(0, 1, 1, 9), scene(0, 9, 10, 2), scene(0, 10, 10, 2)), of(1), of(1), api.OK},
		{"of the same weight the fewest scenes", alone(of(21, 21, 21), scene(0, 1, 1, 9), scene(0, 10, 10, 1), scene(0, 10, 10, 1), scene(0, 20, 20, 2)), of(1), of(3), api.OK},
	} {
		if l, e := night.Cue(x.b, x.done); !slices.Equal(l, x.want) || e != x.e {
			t.Errorf("Cue behind %s: %v, %d, not %v", x.name, l, e, x.want)
		}
	}
}

// P10.4: what is left out if each cue is asked.
func TestPlay(t *testing.T) {
	tight := alone(of(10, 10, 10), scene(0, 5, 8, 3), scene(0, 2, 4, 2), scene(0, 1, 3, 1))
	first := alone(of(8, 8, 8), scene(0, 5, 8, 3), scene(0, 2, 3, 2), scene(0, 1, 3, 2))
	for _, x := range []struct {
		name       string
		b          api.NightBook
		long, want []int
	}{
		{"all are short", example(), of(60, 50, 40, 90, 60, 60, 80, 30), of(7)},
		{"all are long", example(), of(80, 70, 60, 120, 90, 70, 100, 50), of(1, 4, 7)},
		{"the first one is long", example(), of(80, 50, 40, 90, 60, 60, 80, 30), of(1, 7)},
		{"it is too late for the last one", example(), of(60, 50, 40, 90, 60, 70, 100, 30), of(7)},
		{"the first one is left, however short", tight, of(5, 2, 1), of(0)},
		{"the first one is left", tight, of(8, 4, 3), of(0)},
		{"the others are left, all at the worst", first, of(8, 3, 3), of(0)},
		{"the smallest", small(), of(0), nil},
		{"nothing of the greatest", great(), slices.Repeat(of(600), 10), of(0, 1, 2, 3, 4, 5, 6, 7, 8, 9)},
		{"the cue changes", alone(of(15, 15, 15), must(scene(0, 0, 5, 0)), scene(0, 1, 8, 3), scene(0, 0, 8, 3)), of(0, 4, 1), of(1)},
		{"the cue changes once more", alone(of(16, 16, 16), must(scene(0, 0, 5, 0)), scene(0, 1, 8, 4), scene(0, 0, 8, 3)), of(0, 4, 1), nil},
		{"the cue is of another scene then", alone(of(12, 12, 12), must(scene(0, 0, 5, 0)), scene(0, 10, 10, 2), scene(0, 5, 5, 1)), of(2, 10, 5), of(2)},
		{"the cue is of the same scene then", alone(of(12, 12, 12), must(scene(0, 0, 5, 0)), scene(0, 10, 10, 2), scene(0, 5, 5, 1)), of(3, 10, 5), of(1)},
	} {
		if l, e := night.Play(x.b, x.long); !slices.Equal(l, x.want) || e != api.OK {
			t.Errorf("Play if %s: %v, %d, not %v", x.name, l, e, x.want)
		}
	}
}

// P10.5: by how much later the play could begin.
func TestSpare(t *testing.T) {
	for _, x := range []struct {
		name string
		b    api.NightBook
		want int
	}{
		{"the example", example(), 50},
		{"the last part decides", with(func(b *api.NightBook) { b.Opens, b.Ends = of(0, 0, 0), of(2000, 2000, 689) }), 39},
		{"just in time", with(func(b *api.NightBook) { b.Ends = of(220, 430, 650) }), 0},
		{"not before the opening", with(func(b *api.NightBook) { b.Begin, b.Opens[0], b.Ends[0] = 0, 30, 200 }), 60},
		{"another choice of this weight", alone(of(15, 15, 15), scene(0, 10, 10, 2), scene(0, 14, 14, 2)), 5},
		{"another choice of more scenes", alone(of(25, 25, 25), scene(0, 10, 10, 1), scene(0, 10, 10, 1), scene(0, 19, 19, 2)), 6},
		{"a scene more of no weight", alone(of(30, 30, 30), scene(0, 10, 10, 0), scene(0, 20, 20, 1)), 10},
		{"the most", alone(of(2000, 2000, 2000), scene(0, 0, 600, 1)), 1000},
		{"just the most", alone(of(1600, 2000, 2000), scene(0, 0, 600, 1)), 1000},
		{"a minute less than the most", alone(of(1599, 2000, 2000), scene(0, 0, 600, 1)), 999},
		{"up to the last minute", from(1999, alone(of(2000, 2000, 2000), scene(0, 0, 0, 1))), 1},
		{"up to the last minute, from far before", from(1500, alone(of(2000, 2000, 2000), scene(0, 0, 0, 1))), 500},
		{"nothing of the greatest", great(), 0},
		{"the smallest", small(), 0},
	} {
		if n, e := night.Spare(x.b); n != x.want || e != api.OK {
			t.Errorf("Spare of %s: %d, %d, not %d", x.name, n, e, x.want)
		}
	}
}

// wantCarts checks that each load is on one cart, and no cart carries too much, or is listed in a wrong way.
func wantCarts(t *testing.T, b api.NightBook, lists [][]int) {
	t.Helper()
	times := make([]int, len(b.Loads))
	for _, l := range lists {
		weight := 0
		for i, load := range l {
			if load < 0 || load >= len(b.Loads) || i > 0 && load <= l[i-1] {
				t.Fatalf("Carts of %v, %d: %v", b.Loads, b.Cart, lists)
			}
			times[load]++
			weight += b.Loads[load]
		}
		if weight > b.Cart || weight == 0 {
			t.Fatalf("Carts of %v, %d: %v, with the weight %d", b.Loads, b.Cart, lists, weight)
		}
	}
	if !slices.Equal(times, slices.Repeat(of(1), len(b.Loads))) {
		t.Fatalf("Carts of %v, %d: %v", b.Loads, b.Cart, lists)
	}
}

// P10.6, P10.11: as few carts as can be.
func TestCarts(t *testing.T) {
	for _, x := range []struct {
		name string
		b    api.NightBook
		want int
	}{
		{"the example", example(), 2},
		{"no loads", carried(100), 0},
		{"one load", carried(500, 500), 1},
		{"one load of the least weight", carried(1, 1), 1},
		{"just on one cart", carried(180, 40, 60, 50, 30), 1},
		{"a bit too much for one cart", carried(179, 40, 60, 50, 30), 2},
		{"not as the weight alone says", carried(100, 51, 51, 51), 3},
		{"each load on a cart", carried(60, 40, 60, 50, 31), 4},
		{"not the heaviest ones first", carried(12, 6, 4, 4, 4, 3, 3), 2},
		{"not the first ones first", carried(10, 3, 3, 7, 7), 2},
		{"8 loads in pairs", carried(100, 1, 2, 3, 4, 96, 97, 98, 99), 4},
		{"8 loads on three carts", carried(20, 9, 8, 7, 7, 7, 7, 6, 6), 3},
		{"8 loads", great(), 8},
		{"8 light loads", carried(8, 1, 1, 1, 1, 1, 1, 1, 1), 1},
	} {
		lists, e := night.Carts(x.b)
		if len(lists) != x.want || e != api.OK {
			t.Errorf("Carts of %s: %v, %d, not %d", x.name, lists, e, x.want)
		}
		wantCarts(t, x.b, lists)
	}
}

// P10.6, P10.12: what players are paid.
func TestPay(t *testing.T) {
	for _, x := range []struct {
		name string
		b    api.NightBook
		want []int
	}{
		{"the example", example(), of(361, 241, 241)},
		{"a fee that is just enough", with(func(b *api.NightBook) { b.Fee = 160 }), of(0, 0, 0)},
		{"one coin", with(func(b *api.NightBook) { b.Fee = 161 }), of(1, 0, 0)},
		{"no loads", with(func(b *api.NightBook) { b.Loads = nil }), of(404, 270, 269)},
		{"more carts", with(func(b *api.NightBook) { b.Cart = 60 }), of(319, 212, 212)},
		{"nothing", paying(0, 1, 2, 3), of(0, 0, 0)},
		{"no coins are left", paying(60, 1, 2, 3), of(10, 20, 30)},
		{"who lost the most", paying(10, 1, 2, 3), of(2, 3, 5)},
		{"who lost the most, not the first one", paying(5, 1, 3), of(1, 4)},
		{"as much to the first one", paying(1, 1, 1, 1), of(1, 0, 0)},
		{"as much to the first ones", paying(5, 1, 1, 1), of(2, 2, 1)},
		{"who lost nothing gets nothing more", paying(10, 2, 1, 1), of(5, 3, 2)},
		{"the last ones", paying(7, 4, 3, 3), of(3, 2, 2)},
		{"the parts are compared, not the shares", paying(100, 33, 50, 17), of(33, 50, 17)},
		{"all coins of one player", paying(100000, 1), of(100000)},
		{"12 players", paying(100000, slices.Repeat(of(100), 12)...), of(8334, 8334, 8334, 8334, 8333, 8333, 8333, 8333, 8333, 8333, 8333, 8333)},
		{"12 players, of whom one has more", paying(11, append(of(1), slices.Repeat(of(100), 11)...)...), append(of(0), slices.Repeat(of(1), 11)...)},
	} {
		if l, e := night.Pay(x.b); !slices.Equal(l, x.want) || e != api.OK {
			t.Errorf("Pay if %s: %v, %d, not %v", x.name, l, e, x.want)
		}
	}
}

// copied returns a book that shares no memory with another one.
func copied(b api.NightBook) api.NightBook {
	b.Opens, b.Ends, b.Scenes = slices.Clone(b.Opens), slices.Clone(b.Ends), slices.Clone(b.Scenes)
	b.Loads, b.Shares = slices.Clone(b.Loads), slices.Clone(b.Shares)
	return b
}

// P10.7: arguments are only read, also behind their ends.
func TestArguments(t *testing.T) {
	b, q := example(), ordinary()
	lists := []*[]int{&b.Opens, &b.Ends, &b.Loads, &b.Shares, &q.choice, &q.done, &q.long}
	var longer [][]int
	for _, l := range lists {
		more := append(*l, 7)
		longer = append(longer, more)
		*l = more[:len(more)-1]
	}
	scenes := append(b.Scenes, scene(2, 7, 7, 7))
	b.Scenes = scenes[:8]
	answers(b, q)
	if !reflect.DeepEqual(b, example()) || !reflect.DeepEqual(q, ordinary()) {
		t.Errorf("%v, %v were %v, %v", b, q, example(), ordinary())
	}
	for i, l := range longer {
		if l[len(l)-1] != 7 {
			t.Errorf("behind the list %d: %v", i, l)
		}
	}
	if scenes[8] != scene(2, 7, 7, 7) {
		t.Errorf("behind the scenes: %v", scenes[8])
	}
}

// P10.7, R4: results share no memory, neither with an argument nor with each other nor with a later call, and arguments are not retained.
func TestMemory(t *testing.T) {
	b, q := example(), ordinary()
	want, _ := answers(b, q)
	spans, _ := night.Ends(b, q.choice)
	l, _ := night.Leave(b)
	c, _ := night.Cue(b, q.done)
	p, _ := night.Play(b, q.long)
	lists, _ := night.Carts(b)
	paid, _ := night.Pay(b)
	if len(spans) != 3 || len(l) != 3 || len(c) != 2 || len(p) != 1 || len(lists) != 2 || len(lists[0]) == 0 || len(paid) != 3 {
		t.Fatalf("%v, %v, %v, %v, %v, %v", spans, l, c, p, lists, paid)
	}
	other := slices.Clone(lists[1])
	for _, list := range [][]int{append(l, -9), append(c, -9), append(p, -9), append(paid, -9), append(lists[0], -9), l, c, p, paid, lists[0]} {
		for i := range list {
			list[i] = -9
		}
	}
	spans[0] = span(-9, -9)
	if !reflect.DeepEqual(b, example()) || !reflect.DeepEqual(q, ordinary()) || !slices.Equal(lists[1], other) {
		t.Errorf("%v, %v, %v were changed with results", b, q, lists)
	}
	if again, _ := answers(b, q); !reflect.DeepEqual(again, want) {
		t.Errorf("%v after results were changed, not %v", again, want)
	}
	b.Opens[0], b.Ends[0], b.Scenes[0], b.Loads[0], b.Shares[0], q.choice[0], q.done[0], q.long[0] = 9, 9, scene(0, 9, 9, 9), 9, 9, 2, 61, 61
	if again, _ := answers(example(), ordinary()); !reflect.DeepEqual(again, want) {
		t.Errorf("%v after arguments were changed, not %v", again, want)
	}
}

// R3: nil and empty are the same.
func TestNilAndEmpty(t *testing.T) {
	for _, b := range []api.NightBook{example(), small(), great(), {}, carried(100)} {
		one, e := answers(b, question{})
		if b.Loads == nil {
			b.Loads = []int{}
		}
		other, f := answers(b, question{choice: []int{}, done: []int{}, long: []int{}})
		if !reflect.DeepEqual(one, other) || e != f {
			t.Errorf("%v: %v, %v, not %v, %v", b, other, f, one, e)
		}
	}
	empty := api.NightBook{Opens: []int{}, Ends: []int{}, Scenes: []api.NightScene{}, Loads: []int{}, Shares: []int{}}
	if e := night.Check(empty); e != api.ErrNight {
		t.Errorf("the empty book: %d", e)
	}
}

// P2: a call says the same, whatever was called before.
func TestSameAgain(t *testing.T) {
	books := []api.NightBook{example(), great(), small(), carried(1, 2), {}}
	for _, b := range books {
		first, e := answers(b, ordinary())
		for _, between := range books {
			answers(between, question{choice: of(0, 9), done: of(0), long: slices.Repeat(of(600), 10)})
		}
		if again, f := answers(b, ordinary()); !reflect.DeepEqual(first, again) || e != f {
			t.Errorf("%v: %v, and then %v", b, first, again)
		}
	}
}
