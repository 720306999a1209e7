package forge_test

import (
	"math"
	"reflect"
	"slices"
	"testing"

	"saron/api"
	"saron/forge"
)

func to(low, high int) api.Span { return api.Span{Low: low, High: high} }

// example is the book of the chapter's examples.
func example() api.ForgeBook {
	return api.ForgeBook{
		Lots: []api.ForgeLot{{Bars: 4, Tin: to(180, 200)}, {Bars: 3, Tin: to(240, 260)}, {Bars: 2, Tin: to(0, 10)}},
		Tin:  to(190, 230), Thick: 100, Crack: 20, Goal: to(40, 50),
		Thins: []api.Span{to(2, 3), to(4, 4), to(1, 2)},
		Hot:   800, Least: 500, Cool: to(40, 70), Coal: 3,
		Looks: []api.ForgeLook{{Blows: 3, Thick: 92, Err: 1}, {Blows: 7, Thick: 80, Err: 2}},
	}
}

// with returns the book of the examples after a change.
func with(change func(b *api.ForgeBook)) api.ForgeBook {
	b := example()
	change(&b)
	return b
}

// untrue is the book of the examples with a look that belies the other ones.
func untrue() api.ForgeBook {
	return with(func(b *api.ForgeBook) { b.Looks = append(b.Looks, api.ForgeLook{Blows: 12, Thick: 80, Err: 1}) })
}

// melting is the book of the examples with other bars, and another tin.
func melting(tin api.Span, lots ...api.ForgeLot) api.ForgeBook {
	return with(func(b *api.ForgeBook) { b.Tin, b.Lots = tin, lots })
}

// lot has so many bars, of each of which so much is tin.
func lot(bars, tin int) api.ForgeLot { return api.ForgeLot{Bars: bars, Tin: to(tin, tin)} }

// steady is a book without looks, whose strikers all thin the disc by just so much.
func steady(thick, thin int, goal api.Span, crack int) api.ForgeBook {
	return with(func(b *api.ForgeBook) {
		b.Thick, b.Goal, b.Crack, b.Looks = thick, goal, crack, nil
		b.Thins = []api.Span{to(thin, thin), to(thin, thin), to(thin, thin)}
	})
}

// great is a book as great as can be.
func great() api.ForgeBook {
	full := api.ForgeLot{Bars: 6, Tin: to(0, 1000)}
	look := api.ForgeLook{Blows: 300, Thick: 0, Err: 50}
	return api.ForgeBook{
		Lots: []api.ForgeLot{full, full, full, full}, Tin: to(0, 1000), Thick: 3000, Crack: 3000, Goal: to(0, 3000),
		Thins: []api.Span{to(1, 20), to(1, 20), to(1, 20)},
		Hot:   1500, Least: 1500, Cool: to(1, 300), Coal: 100,
		Looks: []api.ForgeLook{look, look, look, look, look, look, look, look},
	}
}

// small is a book as small as can be.
func small() api.ForgeBook {
	return api.ForgeBook{
		Lots: []api.ForgeLot{{}}, Thick: 1, Thins: []api.Span{to(1, 1), to(1, 1), to(1, 1)}, Cool: to(1, 1),
	}
}

func validBooks() map[string]api.ForgeBook {
	return map[string]api.ForgeBook{
		"the example":           example(),
		"it cannot be true":     untrue(),
		"as great as can be":    great(),
		"as small as can be":    small(),
		"Thins of 20":           with(func(b *api.ForgeBook) { b.Thins = []api.Span{to(20, 20), to(20, 20), to(20, 20)} }),
		"Cool of 300":           with(func(b *api.ForgeBook) { b.Cool = to(300, 300) }),
		"tin of 1000":           melting(to(1000, 1000), lot(1, 1000)),
		"Least is Hot":          with(func(b *api.ForgeBook) { b.Least = 800 }),
		"Crack is above Thick":  with(func(b *api.ForgeBook) { b.Crack = 101 }),
		"a look of 3000":        with(func(b *api.ForgeBook) { b.Looks[0].Thick = 3000 }),
		"a look before a blow":  with(func(b *api.ForgeBook) { b.Looks[0].Blows = 0 }),
		"a Goal at 3000":        with(func(b *api.ForgeBook) { b.Goal = to(3000, 3000) }),
		"a Goal that is a fall": with(func(b *api.ForgeBook) { b.Goal = to(0, 0) }),
	}
}

func wrongBooks() map[string]api.ForgeBook {
	books := wrongLists()
	for name, change := range map[string]func(b *api.ForgeBook){
		"a book's tin below 0":           func(b *api.ForgeBook) { b.Tin = to(-1, 200) },
		"a book's tin above 1000":        func(b *api.ForgeBook) { b.Tin = to(200, 1001) },
		"a book's tin turned":            func(b *api.ForgeBook) { b.Tin = to(201, 200) },
		"a Thick of 0":                   func(b *api.ForgeBook) { b.Thick = 0 },
		"a Thick above 3000":             func(b *api.ForgeBook) { b.Thick = 3001 },
		"a Crack below 0":                func(b *api.ForgeBook) { b.Crack = -1 },
		"a Crack above 3000":             func(b *api.ForgeBook) { b.Crack = 3001 },
		"a Goal below 0":                 func(b *api.ForgeBook) { b.Goal = to(-1, 50) },
		"a Goal above 3000":              func(b *api.ForgeBook) { b.Goal = to(40, 3001) },
		"a Goal turned":                  func(b *api.ForgeBook) { b.Goal = to(51, 50) },
		"a Hot below 0":                  func(b *api.ForgeBook) { b.Hot, b.Least = -1, -1 },
		"a Hot above 1500":               func(b *api.ForgeBook) { b.Hot = 1501 },
		"a Least below 0":                func(b *api.ForgeBook) { b.Least = -1 },
		"a Least above Hot":              func(b *api.ForgeBook) { b.Least = 801 },
		"a Cool of 0":                    func(b *api.ForgeBook) { b.Cool = to(0, 70) },
		"a Cool above 300":               func(b *api.ForgeBook) { b.Cool = to(40, 301) },
		"a Cool turned":                  func(b *api.ForgeBook) { b.Cool = to(71, 70) },
		"a Coal below 0":                 func(b *api.ForgeBook) { b.Coal = -1 },
		"a Coal above 100":               func(b *api.ForgeBook) { b.Coal = 101 },
		"numbers that are far too great": func(b *api.ForgeBook) { b.Thick = math.MaxInt },
		"numbers that are far too small": func(b *api.ForgeBook) { b.Cool.Low = math.MinInt },
	} {
		books[name] = with(change)
	}
	return books
}

func wrongLists() map[string]api.ForgeBook {
	books := map[string]api.ForgeBook{"nothing": {}}
	for name, change := range map[string]func(b *api.ForgeBook){
		"no lot":                    func(b *api.ForgeBook) { b.Lots = nil },
		"five lots":                 func(b *api.ForgeBook) { b.Lots = make([]api.ForgeLot, 5) },
		"bars below 0":              func(b *api.ForgeBook) { b.Lots[1].Bars = -1 },
		"seven bars":                func(b *api.ForgeBook) { b.Lots[2].Bars = 7 },
		"a lot's tin below 0":       func(b *api.ForgeBook) { b.Lots[2].Tin = to(-1, 10) },
		"a lot's tin above 1000":    func(b *api.ForgeBook) { b.Lots[1].Tin = to(240, 1001) },
		"a lot's tin turned":        func(b *api.ForgeBook) { b.Lots[0].Tin = to(201, 200) },
		"tin of a lot without bars": func(b *api.ForgeBook) { b.Lots[0] = api.ForgeLot{Tin: to(1, 0)} },
		"no striker":                func(b *api.ForgeBook) { b.Thins = nil },
		"two strikers":              func(b *api.ForgeBook) { b.Thins = b.Thins[:2] },
		"four strikers":             func(b *api.ForgeBook) { b.Thins = append(b.Thins, to(1, 1)) },
		"a thin of 0":               func(b *api.ForgeBook) { b.Thins[2] = to(0, 2) },
		"a thin above 20":           func(b *api.ForgeBook) { b.Thins[0] = to(2, 21) },
		"a thin turned":             func(b *api.ForgeBook) { b.Thins[1] = to(4, 3) },
		"nine looks":                func(b *api.ForgeBook) { b.Looks = slices.Repeat(b.Looks[:1], 9) },
		"a look below 0 blows":      func(b *api.ForgeBook) { b.Looks[0].Blows = -1 },
		"a look after 301 blows":    func(b *api.ForgeBook) { b.Looks[1].Blows = 301 },
		"a look's thick below 0":    func(b *api.ForgeBook) { b.Looks[0].Thick = -1 },
		"a look's thick above 3000": func(b *api.ForgeBook) { b.Looks[1].Thick = 3001 },
		"a look's err below 0":      func(b *api.ForgeBook) { b.Looks[0].Err = -1 },
		"a look's err above 50":     func(b *api.ForgeBook) { b.Looks[1].Err = 51 },
	} {
		books[name] = with(change)
	}
	return books
}

// question is what the functions are asked of a book.
type question struct {
	bars, sizes          []int
	many, striker, blows int
}

func fine() question {
	return question{bars: []int{2, 1, 0}, sizes: []int{3, 4}, many: 2, striker: 0, blows: 7}
}

// asking returns the ordinary question after a change.
func asking(change func(q *question)) question {
	q := fine()
	change(&q)
	return q
}

// answers returns what each function says of a book, and the error of it, in the order of the chapter.
func answers(b api.ForgeBook, q question) ([]any, []api.Errno) {
	is, e1 := forge.IsMelt(b, q.bars)
	cast, e2 := forge.Cast(b, q.many)
	casts, e3 := forge.Casts(b, q.sizes)
	most, e4 := forge.Most(b)
	strength, e5 := forge.Strength(b, q.striker)
	thick, e6 := forge.Thick(b, q.blows)
	wrong, e7 := forge.Wrong(b)
	blows, e8 := forge.Blows(b)
	sound, e9 := forge.Sound(b)
	heats, coal, e10 := forge.Heats(b, q.blows)
	return []any{is, cast, casts, most, strength, thick, wrong, blows, sound, [2]api.Span{heats, coal}},
		[]api.Errno{e1, e2, e3, e4, e5, e6, e7, e8, e9, e10}
}

// wantErrors checks the errors of all functions, and that what comes with an error is zero (R2).
func wantErrors(t *testing.T, name string, b api.ForgeBook, q question, want []api.Errno) {
	t.Helper()
	results, errors := answers(b, q)
	if !slices.Equal(errors, want) {
		t.Errorf("%s: the errors are %v, not %v", name, errors, want)
	}
	for i, r := range results {
		v := reflect.ValueOf(r)
		empty := v.IsZero() || v.Kind() == reflect.Slice && v.Len() == 0
		if errors[i] != api.OK && !empty {
			t.Errorf("%s: the result %d comes with an error: %v", name, i, r)
		}
	}
}

// P2.1: what is valid.
func TestCheck(t *testing.T) {
	for name, b := range validBooks() {
		if e := forge.Check(b); e != api.OK {
			t.Errorf("%s: %d", name, e)
		}
	}
	for name, b := range wrongBooks() {
		if e := forge.Check(b); e != api.ErrForge {
			t.Errorf("%s: %d", name, e)
		}
	}
}

// P2.1 to P2.7, R1, R2: the error that is named first, and nothing else with it.
func TestErrors(t *testing.T) {
	const bad, ask, none, no = api.ErrForge, api.ErrForgeAsk, api.ErrNone, api.ErrForgeFalse
	worst := question{many: -1, striker: 99, blows: math.MaxInt}
	for name, b := range wrongBooks() {
		wantErrors(t, name, b, worst, []api.Errno{bad, bad, bad, bad, bad, bad, bad, bad, bad, bad})
		wantErrors(t, name, b, fine(), []api.Errno{bad, bad, bad, bad, bad, bad, bad, bad, bad, bad})
	}
	wantErrors(t, "the example", example(), fine(), make([]api.Errno, 10))
	for _, many := range []int{0, -1, 25, math.MinInt, math.MaxInt} {
		q := asking(func(q *question) { q.many = many })
		wantErrors(t, "no such number of bars", example(), q, []api.Errno{0, ask, 0, 0, 0, 0, 0, 0, 0, 0})
	}
	for _, sizes := range [][]int{nil, {}, {1, 1, 1, 1, 1}, {3, 0}, {-1}, {25}, {3, math.MaxInt}, {math.MinInt, 3}} {
		q := asking(func(q *question) { q.sizes = sizes })
		wantErrors(t, "no such sizes", example(), q, []api.Errno{0, 0, ask, 0, 0, 0, 0, 0, 0, 0})
	}
	for _, striker := range []int{-1, 3, math.MinInt, math.MaxInt} {
		q := asking(func(q *question) { q.striker = striker })
		wantErrors(t, "no such striker", example(), q, []api.Errno{0, 0, 0, 0, ask, 0, 0, 0, 0, 0})
		wantErrors(t, "untrue, no such striker", untrue(), q, []api.Errno{0, 0, 0, 0, ask, no, 0, no, no, 0})
	}
	for _, blows := range []int{-1, 301, math.MinInt, math.MaxInt} {
		q := asking(func(q *question) { q.blows = blows })
		wantErrors(t, "no such blows", example(), q, []api.Errno{0, 0, 0, 0, 0, ask, 0, 0, 0, ask})
		wantErrors(t, "untrue, no such blows", untrue(), q, []api.Errno{0, 0, 0, 0, no, ask, 0, no, no, ask})
	}
	wantErrors(t, "untrue", untrue(), fine(), []api.Errno{0, 0, 0, 0, no, no, 0, no, no, 0})
	poor := melting(to(900, 1000), lot(6, 100))
	wantErrors(t, "no right melt", poor, fine(), []api.Errno{0, none, none, none, 0, 0, 0, 0, 0, 0})
	wantErrors(t, "no right melt, no such numbers", poor, worst, []api.Errno{0, ask, ask, none, ask, ask, 0, 0, 0, ask})
	cracked := with(func(b *api.ForgeBook) { b.Crack, b.Goal = 101, to(40, 50) })
	wantErrors(t, "it is cracked", cracked, fine(), []api.Errno{0, 0, 0, 0, 0, 0, 0, none, none, 0})
	both := untrue()
	both.Crack = 3000
	wantErrors(t, "untrue and cracked", both, fine(), []api.Errno{0, 0, 0, 0, no, no, 0, no, no, 0})
}

// P2.2, P2.3, P2.6: the greatest number that can be asked for, and what has none.
func TestEndsOfQuestions(t *testing.T) {
	b := great()
	b.Looks = nil
	if m, e := forge.Cast(b, 24); !slices.Equal(m, []int{6, 6, 6, 6}) || e != api.OK {
		t.Errorf("Cast of 24: %v, %d", m, e)
	}
	if m, e := forge.Casts(b, []int{24}); len(m) != 1 || !slices.Equal(m[0], []int{6, 6, 6, 6}) || e != api.OK {
		t.Errorf("Casts of 24: %v, %d", m, e)
	}
	if m, e := forge.Casts(b, []int{24, 1}); len(m) != 0 || e != api.ErrNone {
		t.Errorf("Casts of 24 and 1: %v, %d", m, e)
	}
	if s, e := forge.Thick(b, 300); s != to(3000-300*20, 3000-300) || e != api.OK {
		t.Errorf("Thick after 300 blows: %v, %d", s, e)
	}
	if s, e := forge.Thick(b, 0); s != to(3000, 3000) || e != api.OK {
		t.Errorf("Thick after no blow: %v, %d", s, e)
	}
}

// P2.1: which melts are right.
func TestIsMelt(t *testing.T) {
	twoLots := melting(to(100, 200), api.ForgeLot{Bars: 3, Tin: to(90, 110)}, api.ForgeLot{Bars: 3, Tin: to(180, 210)})
	for _, x := range []struct {
		name string
		b    api.ForgeBook
		bars []int
		want bool
	}{
		{"two and one", example(), []int{2, 1, 0}, true},
		{"too little tin", example(), []int{4, 0, 0}, false},
		{"one and one", example(), []int{1, 1, 0}, true},
		{"no bars", example(), []int{0, 0, 0}, false},
		{"too much tin", example(), []int{0, 1, 0}, false},
		{"all that is right", example(), []int{4, 3, 0}, true},
		{"more than a lot has", example(), []int{5, 3, 0}, false},
		{"less than nothing", example(), []int{3, 1, -1}, false},
		{"less than nothing, together none", example(), []int{1, -1, 0}, false},
		{"far too many", example(), []int{math.MaxInt, math.MaxInt, 4}, false},
		{"far too few", example(), []int{math.MinInt, math.MinInt, 2}, false},
		{"a lot too few", example(), []int{2, 1}, false},
		{"a lot too many", example(), []int{2, 1, 0, 0}, false},
		{"nil", example(), nil, false},
		{"empty", example(), []int{}, false},
		{"a bar that can have too little", twoLots, []int{1, 0}, false},
		{"a bar that can have too much", twoLots, []int{0, 1}, false},
		{"both of them", twoLots, []int{1, 1}, true},
		{"at the Low", twoLots, []int{3, 1}, true},
		{"at the High", twoLots, []int{1, 3}, true},
		{"just at the tin", melting(to(150, 150), lot(2, 100), lot(2, 200)), []int{2, 2}, true},
		{"just below it", melting(to(150, 150), lot(2, 100), lot(2, 199)), []int{2, 2}, false},
		{"just above it", melting(to(150, 150), lot(2, 101), lot(2, 200)), []int{2, 2}, false},
		{"a sum that is not rounded down", melting(to(0, 133), lot(2, 100), lot(1, 200)), []int{2, 1}, false},
		{"nor up", melting(to(134, 1000), lot(2, 100), lot(1, 200)), []int{2, 1}, false},
		{"no tin at all", melting(to(0, 0), lot(1, 0)), []int{1}, true},
	} {
		if is, e := forge.IsMelt(x.b, x.bars); is != x.want || e != api.OK {
			t.Errorf("%s: %v, %d", x.name, is, e)
		}
	}
}

// P2.2: the melt of as few lots as any, of several the first one; the most bars of a melt.
func TestCast(t *testing.T) {
	same := melting(to(100, 100), lot(2, 100), lot(3, 100), lot(3, 100), lot(1, 100))
	mixed := melting(to(150, 150), lot(2, 100), lot(2, 150), lot(2, 200))
	for _, x := range []struct {
		name string
		b    api.ForgeBook
		many int
		want []int
	}{
		{"2 of the example", example(), 2, []int{1, 1, 0}},
		{"3 of the example", example(), 3, []int{2, 1, 0}},
		{"1 of the example", example(), 1, nil},
		{"7 of the example", example(), 7, []int{4, 3, 0}},
		{"8 of the example", example(), 8, nil},
		{"24 of the example", example(), 24, nil},
		{"the first of one lot", same, 1, []int{0, 0, 0, 1}},
		{"the first lot that has as many", same, 3, []int{0, 0, 3, 0}},
		{"the first of two lots", same, 4, []int{0, 0, 3, 1}},
		{"the first of two lots, not of three", same, 5, []int{0, 2, 3, 0}},
		{"one lot, though two come first", melting(to(100, 100), lot(1, 100), lot(1, 100), lot(2, 100)), 2, []int{0, 0, 2}},
		{"one lot, though it is not the first melt", melting(to(100, 100), lot(3, 100), lot(1, 100)), 3, []int{3, 0}},
		{"one lot, not two", mixed, 2, []int{0, 2, 0}},
		{"two lots", mixed, 4, []int{2, 0, 2}},
		{"three lots", mixed, 6, []int{2, 2, 2}},
		{"lots without bars", melting(to(0, 1000), lot(0, 100), lot(0, 100)), 1, nil},
	} {
		m, e := forge.Cast(x.b, x.many)
		want := api.OK
		if x.want == nil {
			want = api.ErrNone
		}
		if !slices.Equal(m, x.want) || e != want {
			t.Errorf("%s: %v, %d, not %v", x.name, m, e, x.want)
		}
	}
	for _, x := range []struct {
		name string
		b    api.ForgeBook
		want int
		e    api.Errno
	}{
		{"the example", example(), 7, api.OK},
		{"four full lots", great(), 24, api.OK},
		{"a single bar", melting(to(100, 100), lot(1, 100)), 1, api.OK},
		{"not all bars", melting(to(100, 150), lot(1, 100), lot(3, 200)), 2, api.OK},
		{"no right melt", melting(to(100, 100), lot(6, 99)), 0, api.ErrNone},
		{"no bars", melting(to(0, 1000), lot(0, 100)), 0, api.ErrNone},
	} {
		if many, e := forge.Most(x.b); many != x.want || e != x.e {
			t.Errorf("Most of %s: %d, %d", x.name, many, e)
		}
	}
}

// wantCasts checks that melts are right, of these sizes, and that all bars are there (P2.3, P2.9).
func wantCasts(t *testing.T, name string, b api.ForgeBook, sizes []int, melts [][]int) {
	t.Helper()
	if len(melts) != len(sizes) {
		t.Errorf("%s: %v are not melts of %v bars", name, melts, sizes)
		return
	}
	left := slices.Clone(b.Lots)
	for i, m := range melts {
		many := 0
		for lot, bars := range m {
			many += bars
			left[lot].Bars -= bars
			if left[lot].Bars < 0 {
				t.Errorf("%s: %v take more bars of the lot %d than it has", name, melts, lot)
			}
		}
		if is, e := forge.IsMelt(b, m); !is || many != sizes[i] || e != api.OK {
			t.Errorf("%s: %v is not a right melt of %d bars", name, m, sizes[i])
		}
	}
}

// P2.3: melts of several discs.
func TestCasts(t *testing.T) {
	greedy := melting(to(150, 150), lot(2, 100), lot(2, 150), lot(2, 200))
	for _, x := range []struct {
		name  string
		b     api.ForgeBook
		sizes []int
		can   bool
	}{
		{"3 and 4 of the example", example(), []int{3, 4}, true},
		{"4 and 3 of the example", example(), []int{4, 3}, true},
		{"3, 2 and 2 of the example", example(), []int{3, 2, 2}, true},
		{"7 and 1 of the example", example(), []int{7, 1}, false},
		{"7 of the example", example(), []int{7}, true},
		{"2, 2, 2 and 2 of the example", example(), []int{2, 2, 2, 2}, false},
		{"more bars than there are", example(), []int{24, 24, 24, 24}, false},
		{"what the first melt must leave", greedy, []int{2, 1, 1}, true},
		{"the same, the last ones first", greedy, []int{1, 1, 2}, true},
		{"all that is there", greedy, []int{1, 1, 2, 2}, true},
		{"a bar more of one tin than there is", greedy, []int{1, 1, 1}, false},
		{"four discs of all bars", great(), []int{6, 6, 6, 6}, true},
		{"four discs and a bar too many", great(), []int{6, 6, 6, 7}, false},
	} {
		melts, e := forge.Casts(x.b, x.sizes)
		if !x.can {
			if len(melts) != 0 || e != api.ErrNone {
				t.Errorf("%s: %v, %d", x.name, melts, e)
			}
			continue
		}
		if e != api.OK {
			t.Errorf("%s: %d", x.name, e)
		}
		wantCasts(t, x.name, x.b, x.sizes, melts)
	}
}

// P2.4: what strikers can be, in some truth.
func TestStrength(t *testing.T) {
	// The blows 0 and 1 took 6 together, the blow 2 took 1, and the blow 3, which is by 0 again, took 1 to 3.
	told := steady(100, 1, to(0, 1), 0)
	told.Thins = []api.Span{to(2, 4), to(2, 4), to(1, 20)}
	told.Looks = []api.ForgeLook{{Blows: 2, Thick: 94}, {Blows: 3, Thick: 93}, {Blows: 4, Thick: 91, Err: 1}}
	for _, x := range []struct {
		name    string
		b       api.ForgeBook
		striker int
		want    []int
	}{
		{"0 of the example", example(), 0, []int{2, 3}},
		{"1 of the example", example(), 1, []int{4}},
		{"2 of the example", example(), 2, []int{1, 2}},
		{"0, if a look tells it", with(func(b *api.ForgeBook) { b.Looks[0] = api.ForgeLook{Blows: 1, Thick: 97} }), 0, []int{3}},
		{"2, if the looks belie each other", with(func(b *api.ForgeBook) { b.Looks[0] = api.ForgeLook{Blows: 3, Thick: 93, Err: 0} }), 2, nil},
		{"0, of which 4 is too much", told, 0, []int{2, 3}},
		{"1, of which 2 leaves too much to 0", told, 1, []int{3, 4}},
		{"2, that a look tells", told, 2, []int{1}},
		{"no look", steady(100, 7, to(0, 1), 0), 2, []int{7}},
	} {
		list, e := forge.Strength(x.b, x.striker)
		want := api.OK
		if x.want == nil {
			want = api.ErrForgeFalse
		}
		if !slices.Equal(list, x.want) || e != want {
			t.Errorf("%s: %v, %d, not %v", x.name, list, e, x.want)
		}
	}
}

// P2.4: numbers between the ends that are in no truth.
func TestGaps(t *testing.T) {
	// 2 blows of 0 and a blow of 1 took 10: 0 took as much as 1 leaves, which is even.
	b := steady(100, 1, to(0, 1), 0)
	b.Thins = []api.Span{to(1, 9), to(1, 9), to(1, 1)}
	b.Looks = []api.ForgeLook{{Blows: 4, Thick: 89}}
	if list, e := forge.Strength(b, 1); !slices.Equal(list, []int{2, 4, 6, 8}) || e != api.OK {
		t.Errorf("Strength of 1: %v, %d", list, e)
	}
	if list, e := forge.Strength(b, 0); !slices.Equal(list, []int{1, 2, 3, 4}) || e != api.OK {
		t.Errorf("Strength of 0: %v, %d", list, e)
	}
}

// P2.4: between what the thickness lies.
func TestThick(t *testing.T) {
	turns := steady(100, 1, to(0, 1), 0)
	turns.Thins = []api.Span{to(2, 2), to(3, 3), to(7, 7)}
	for _, x := range []struct {
		name  string
		b     api.ForgeBook
		blows int
		want  api.Span
	}{
		{"3 blows of the example", example(), 3, to(91, 92)},
		{"7 blows of the example", example(), 7, to(79, 82)},
		{"9 blows of the example", example(), 9, to(73, 76)},
		{"no blow of the example", example(), 0, to(100, 100)},
		{"a blow of 0", turns, 1, to(98, 98)},
		{"a blow of 1", turns, 2, to(95, 95)},
		{"a blow of 2", turns, 3, to(88, 88)},
		{"a blow of 0 again", turns, 4, to(86, 86)},
		{"below 0", turns, 300, to(-1100, -1100)},
	} {
		if s, e := forge.Thick(x.b, x.blows); s != x.want || e != api.OK {
			t.Errorf("%s: %v, %d, not %v", x.name, s, e, x.want)
		}
	}
}

// P2.4: by how much a look can differ.
func TestErr(t *testing.T) {
	for thick, want := range map[int]api.Errno{86: api.ErrForgeFalse, 87: 0, 88: 0, 90: 0, 93: 0, 94: api.ErrForgeFalse} {
		b := steady(100, 5, to(0, 1), 0)
		b.Looks = []api.ForgeLook{{Blows: 2, Thick: thick, Err: 3}}
		if _, e := forge.Thick(b, 2); e != want {
			t.Errorf("%d: %d, not %d", thick, e, want)
		}
	}
	below := steady(10, 5, to(0, 1), 0)
	below.Looks = []api.ForgeLook{{Blows: 3, Thick: 0, Err: 5}}
	if s, e := forge.Thick(below, 3); s != to(-5, -5) || e != api.OK {
		t.Errorf("a look at what is below 0: %v, %d", s, e)
	}
}

// P2.5: the looks that must be wrong.
func TestWrong(t *testing.T) {
	look := func(blows, thick int) api.ForgeLook { return api.ForgeLook{Blows: blows, Thick: thick} }
	looks := func(list ...api.ForgeLook) api.ForgeBook {
		b := steady(100, 1, to(0, 1), 0)
		b.Thins = []api.Span{to(1, 9), to(5, 5), to(5, 5)}
		b.Looks = list
		return b
	}
	for _, x := range []struct {
		name string
		b    api.ForgeBook
		want []int
	}{
		{"the example", example(), nil},
		{"a look more", untrue(), []int{2}},
		{"no look", looks(), nil},
		{"one that no disc fits", looks(look(1, 50)), []int{0}},
		{"the first of two", looks(look(1, 97), look(1, 98)), []int{0}},
		{"the fewest, not the first", looks(look(1, 97), look(1, 97), look(1, 98)), []int{2}},
		{"two of four, the first ones", looks(look(1, 97), look(1, 98), look(1, 98), look(1, 97)), []int{0, 3}},
		{"two of three", looks(look(1, 97), look(1, 98), look(1, 99)), []int{0, 1}},
		{"one is enough, though it comes last", looks(look(1, 97), look(2, 92), look(1, 98)), []int{2}},
		{"all eight", looks(slices.Repeat([]api.ForgeLook{look(2, 100)}, 8)...), []int{0, 1, 2, 3, 4, 5, 6, 7}},
	} {
		if list, e := forge.Wrong(x.b); !slices.Equal(list, x.want) || e != api.OK {
			t.Errorf("%s: %v, %d, not %v", x.name, list, e, x.want)
		}
	}
}

// P2.6: after how many blows a disc is done.
func TestBlows(t *testing.T) {
	for _, x := range []struct {
		name string
		b    api.ForgeBook
		want int
		e    api.Errno
	}{
		{"the example", example(), 19, api.OK},
		{"no blow", steady(100, 5, to(100, 100), 100), 0, api.OK},
		{"just at the Low of Goal", steady(100, 5, to(90, 92), 0), 2, api.OK},
		{"just at the High of Goal", steady(100, 5, to(88, 90), 0), 2, api.OK},
		{"it steps over Goal", steady(100, 5, to(91, 94), 0), 0, api.ErrNone},
		{"just at Crack", steady(100, 5, to(80, 90), 90), 2, api.OK},
		{"in Goal, but cracked", steady(100, 5, to(80, 90), 91), 0, api.ErrNone},
		{"300 blows", steady(300, 1, to(0, 0), 0), 300, api.OK},
		{"301 blows", steady(301, 1, to(0, 0), 0), 0, api.ErrNone},
		{"too thin at first", steady(100, 5, to(101, 110), 0), 0, api.ErrNone},
		{"never sure", with(func(b *api.ForgeBook) { b.Goal = to(40, 41) }), 0, api.ErrNone},
	} {
		if n, e := forge.Blows(x.b); n != x.want || e != x.e {
			t.Errorf("%s: %d, %d, not %d", x.name, n, e, x.want)
		}
	}
}

// P2.6: by how many blows a disc cannot crack.
func TestSound(t *testing.T) {
	for _, x := range []struct {
		name string
		b    api.ForgeBook
		want int
		e    api.Errno
	}{
		{"the example", example(), 26, api.OK},
		{"just at Crack", steady(100, 5, to(0, 1), 90), 2, api.OK},
		{"just above it", steady(100, 5, to(0, 1), 91), 1, api.OK},
		{"by no blow", steady(100, 5, to(0, 1), 100), 0, api.OK},
		{"cracked at first", steady(100, 5, to(0, 1), 101), 0, api.ErrNone},
		{"299 blows", steady(299, 1, to(0, 1), 0), 299, api.OK},
		{"300 blows", steady(300, 1, to(0, 1), 0), 300, api.OK},
		{"up to 300 alone", steady(3000, 1, to(0, 1), 0), 300, api.OK},
	} {
		if n, e := forge.Sound(x.b); n != x.want || e != x.e {
			t.Errorf("%s: %d, %d, not %d", x.name, n, e, x.want)
		}
	}
}

// P2.7: heats and charcoal.
func TestHeats(t *testing.T) {
	heat := func(hot, least int, cool api.Span) api.ForgeBook {
		return with(func(b *api.ForgeBook) { b.Hot, b.Least, b.Cool = hot, least, cool })
	}
	for _, x := range []struct {
		name        string
		b           api.ForgeBook
		blows       int
		heats, coal api.Span
	}{
		{"12 blows of the example", example(), 12, to(2, 3), to(6, 9)},
		{"no blow of the example", example(), 0, to(0, 0), to(0, 0)},
		{"a blow of the example", example(), 1, to(1, 1), to(3, 3)},
		{"8 blows of the example", example(), 8, to(1, 2), to(3, 6)},
		{"300 blows of the example", example(), 300, to(38, 60), to(114, 180)},
		{"untrue looks", untrue(), 12, to(2, 3), to(6, 9)},
		{"a blow in each heat", heat(800, 800, to(1, 300)), 300, to(300, 300), to(900, 900)},
		{"a blow at just Least", heat(10, 0, to(5, 5)), 3, to(1, 1), to(3, 3)},
		{"a blow just below Least", heat(9, 0, to(5, 5)), 3, to(2, 2), to(6, 6)},
		{"a fall below 0", heat(10, 0, to(300, 300)), 2, to(2, 2), to(6, 6)},
		{"no charcoal", with(func(b *api.ForgeBook) { b.Coal = 0 }), 12, to(2, 3), to(0, 0)},
	} {
		heats, coal, e := forge.Heats(x.b, x.blows)
		if heats != x.heats || coal != x.coal || e != api.OK {
			t.Errorf("%s: %v, %v, %d", x.name, heats, coal, e)
		}
	}
}

// P2.8, R4: nothing of an argument is changed.
func TestArguments(t *testing.T) {
	for _, b := range []api.ForgeBook{example(), untrue(), great()} {
		before := b
		before.Lots, before.Thins, before.Looks = slices.Clone(b.Lots), slices.Clone(b.Thins), slices.Clone(b.Looks)
		q := fine()
		answers(b, q)
		if !reflect.DeepEqual(b, before) {
			t.Errorf("a book was changed: %v is %v", before, b)
		}
		if !reflect.DeepEqual(q, fine()) {
			t.Errorf("a question was changed: %v", q)
		}
	}
}

// P2.8, R4: results share no memory, neither with each other nor with those of a later call.
func TestMemory(t *testing.T) {
	for name, list := range map[string]func() []int{
		"Cast":     func() []int { l, _ := forge.Cast(example(), 3); return l },
		"Strength": func() []int { l, _ := forge.Strength(example(), 0); return l },
		"Wrong":    func() []int { l, _ := forge.Wrong(untrue()); return l },
	} {
		first := list()
		want := slices.Clone(first)
		for i := range first {
			first[i] = -1
		}
		if again := list(); !slices.Equal(again, want) || len(want) == 0 {
			t.Errorf("%s: %v after a result was changed, not %v", name, again, want)
		}
	}
	melts, _ := forge.Casts(example(), []int{2, 2})
	want := slices.Clone(melts[1])
	for i := range melts[0] {
		melts[0][i] = -1
	}
	if _ = append(melts[0], -1, -1); !slices.Equal(melts[1], want) {
		t.Errorf("Casts: a melt was changed by another one: %v, not %v", melts[1], want)
	}
}

// R3: nil and empty are the same.
func TestNilAndEmpty(t *testing.T) {
	bare := with(func(b *api.ForgeBook) { b.Looks = nil })
	empty := with(func(b *api.ForgeBook) { b.Looks = []api.ForgeLook{} })
	none := with(func(b *api.ForgeBook) { b.Lots = nil })
	noLots := with(func(b *api.ForgeBook) { b.Lots = []api.ForgeLot{} })
	for _, pair := range [][2]api.ForgeBook{{bare, empty}, {none, noLots}} {
		one, e := answers(pair[0], asking(func(q *question) { q.bars, q.sizes = nil, nil }))
		other, f := answers(pair[1], asking(func(q *question) { q.bars, q.sizes = []int{}, []int{} }))
		if !reflect.DeepEqual(one, other) || !slices.Equal(e, f) {
			t.Errorf("%v: %v, %v; %v: %v, %v", pair[0], one, e, pair[1], other, f)
		}
	}
}

// P2: a call says the same, whatever was called before.
func TestSameAgain(t *testing.T) {
	books := []api.ForgeBook{example(), untrue(), great(), small(), {}}
	for _, b := range books {
		first, e := answers(b, fine())
		for _, between := range books {
			answers(between, question{bars: []int{1, 1, 0}, sizes: []int{2, 2}, many: 7, striker: 2, blows: 9})
		}
		if again, f := answers(b, fine()); !reflect.DeepEqual(first, again) || !slices.Equal(e, f) {
			t.Errorf("%v: %v, and then %v", b, first, again)
		}
	}
}
