package cycle_test

import (
	"math"
	"reflect"
	"slices"
	"testing"

	"saron/api"
	"saron/cycle"
)

func form(beats int, strokes ...[]int) api.CycleForm {
	return api.CycleForm{Beats: beats, Strokes: strokes}
}

func at(beats ...int) []int { return beats }

func spot(form, begin int) api.CycleSpot { return api.CycleSpot{Form: form, Begin: begin} }

func stroke(beat, gong int) api.CycleStroke { return api.CycleStroke{Beat: beat, Gong: gong} }

func heard(beats ...[]int) [][]int { return beats }

// forms is a book of as many gongs as its first form strikes.
func forms(list ...api.CycleForm) api.CycleBook {
	return api.CycleBook{Gongs: len(list[0].Strokes), Forms: list}
}

// example is the book of the chapter's examples.
func example() api.CycleBook {
	return forms(form(8, at(7), at(3, 7), at(0, 2, 4, 6)), form(4, at(3), at(1), at(0, 2)))
}

// with returns the book of the examples after a change.
func with(change func(b *api.CycleBook)) api.CycleBook {
	b := example()
	change(&b)
	return b
}

// all returns the first numbers, from 0 on.
func all(many int) []int {
	var list []int
	for n := range many {
		list = append(list, n)
	}
	return list
}

// great is a book as great as can be.
func great() api.CycleBook {
	full := form(32, at(31), all(32), all(31), at(0, 16), nil)
	return forms(full, full, full, full)
}

// small is a book as small as can be.
func small() api.CycleBook { return forms(form(2, at(1))) }

// uneven is a book of gongs that are not struck, or not always as far apart.
func uneven() api.CycleBook {
	return forms(form(12, at(11), nil, at(5), at(0, 6), at(0, 5)), form(6, at(5), at(0, 2, 4), at(1, 3), all(6), at(0, 2, 3, 5)))
}

func validBooks() map[string]api.CycleBook {
	return map[string]api.CycleBook{
		"the example":               example(),
		"as great as can be":        great(),
		"as small as can be":        small(),
		"gongs that are not struck": forms(form(2, at(1), nil, []int{}, nil, nil)),
		"the same forms":            with(func(b *api.CycleBook) { b.Forms[1] = b.Forms[0] }),
		"at each beat":              forms(form(3, at(2), at(0, 1, 2))),
		"the uneven one":            uneven(),
	}
}

func wrongBooks() map[string]api.CycleBook {
	books := map[string]api.CycleBook{"nothing": {}, "no gongs": {Forms: []api.CycleForm{form(2)}}}
	for name, change := range map[string]func(b *api.CycleBook){
		"fewer gongs than lists":        func(b *api.CycleBook) { b.Gongs = 2 },
		"more gongs than lists":         func(b *api.CycleBook) { b.Gongs = 4 },
		"gongs below 0":                 func(b *api.CycleBook) { b.Gongs = math.MinInt },
		"far too many gongs":            func(b *api.CycleBook) { b.Gongs = math.MaxInt },
		"six gongs":                     func(b *api.CycleBook) { *b = forms(form(2, at(1), nil, nil, nil, nil, nil)) },
		"no forms":                      func(b *api.CycleBook) { b.Forms = nil },
		"five forms":                    func(b *api.CycleBook) { b.Forms = slices.Repeat(b.Forms[:1], 5) },
		"one beat":                      func(b *api.CycleBook) { b.Forms[1] = form(1, at(0), nil, nil) },
		"no beats":                      func(b *api.CycleBook) { b.Forms[1] = form(0, nil, nil, nil) },
		"33 beats":                      func(b *api.CycleBook) { b.Forms[0] = form(33, at(32), nil, nil) },
		"far too many beats":            func(b *api.CycleBook) { b.Forms[0].Beats = math.MaxInt },
		"beats below 0":                 func(b *api.CycleBook) { b.Forms[0].Beats = math.MinInt },
		"a list too few":                func(b *api.CycleBook) { b.Forms[1].Strokes = b.Forms[1].Strokes[:2] },
		"a list too many":               func(b *api.CycleBook) { b.Forms[0].Strokes = append(b.Forms[0].Strokes, nil) },
		"no lists":                      func(b *api.CycleBook) { b.Forms[0].Strokes = nil },
		"a stroke below 0":              func(b *api.CycleBook) { b.Forms[0].Strokes[2] = at(-1, 2) },
		"a stroke behind the last beat": func(b *api.CycleBook) { b.Forms[1].Strokes[2] = at(0, 4) },
		"a stroke far too great":        func(b *api.CycleBook) { b.Forms[1].Strokes[1] = at(math.MaxInt) },
		"a stroke twice":                func(b *api.CycleBook) { b.Forms[0].Strokes[1] = at(3, 3) },
		"strokes that decrease":         func(b *api.CycleBook) { b.Forms[0].Strokes[2] = at(0, 4, 2, 6) },
		"no great gong":                 func(b *api.CycleBook) { b.Forms[1].Strokes[0] = nil },
		"a great gong too soon":         func(b *api.CycleBook) { b.Forms[1].Strokes[0] = at(2) },
		"a great gong at the first":     func(b *api.CycleBook) { b.Forms[1].Strokes[0] = at(0) },
		"two great gongs":               func(b *api.CycleBook) { b.Forms[0].Strokes[0] = at(3, 7) },
	} {
		books[name] = with(change)
	}
	return books
}

// question is what the functions are asked of a book.
type question struct {
	form, gong, beat, many, lost int
	spot                         api.CycleSpot
	heard                        [][]int
}

func ordinary() question {
	return question{form: 0, gong: 1, beat: 4, many: 3, lost: 1, spot: spot(0, 6), heard: heard(at(2), nil, at(2))}
}

// asking returns the ordinary question after a change.
func asking(change func(q *question)) question {
	q := ordinary()
	change(&q)
	return q
}

// answers returns what each function says of a book, and the error of it, in the order of the chapter.
func answers(b api.CycleBook, q question) ([9]any, [9]api.Errno) {
	struck, e1 := cycle.Struck(b, q.form, q.beat)
	next, e2 := cycle.Next(b, q.form, q.gong, q.beat)
	even, e3 := cycle.Even(b, q.form, q.gong)
	passage, e4 := cycle.Passage(b, q.spot, q.many)
	places, e5 := cycle.Places(b, q.heard, q.lost)
	least, e6 := cycle.Least(b, q.heard)
	missing, e7 := cycle.Missing(b, q.spot, q.heard)
	one, other, e8 := cycle.Confused(b, q.lost, q.many)
	sure, e9 := cycle.Sure(b, q.lost)
	return [...]any{struck, next, even, passage, places, least, missing, [2]api.CycleSpot{one, other}, sure},
		[...]api.Errno{e1, e2, e3, e4, e5, e6, e7, e8, e9}
}

// wantErrors checks the errors of all functions, and that what comes with an error is zero (R2).
func wantErrors(t *testing.T, name string, b api.CycleBook, q question, want [9]api.Errno) {
	t.Helper()
	results, errors := answers(b, q)
	if errors != want {
		t.Errorf("%s: the errors are %v, not %v", name, errors, want)
	}
	for i, r := range results {
		v := reflect.ValueOf(r)
		empty := v.IsZero() || v.Kind() == reflect.Slice && v.Len() == 0
		if errors[i] != api.OK && !empty {
			t.Errorf("%s: the result %d comes with an error: %v", name, i, r)
		}
	}
}

// P5.1: what is valid.
func TestCheck(t *testing.T) {
	for name, b := range validBooks() {
		if e := cycle.Check(b); e != api.OK {
			t.Errorf("%s: %d", name, e)
		}
	}
	for name, b := range wrongBooks() {
		if e := cycle.Check(b); e != api.ErrCycle {
			t.Errorf("%s: %d", name, e)
		}
	}
}

// P5.1 to P5.7, R1, R2: the error of a wrong book comes first.
func TestWrongBooks(t *testing.T) {
	const bad, ask = api.ErrCycle, api.ErrCycleAsk
	worst := question{form: -1, gong: 99, beat: -1, many: 0, lost: 7, spot: spot(9, -1), heard: heard(at(-1))}
	for name, b := range wrongBooks() {
		wantErrors(t, name, b, worst, [9]api.Errno{bad, bad, bad, bad, bad, bad, bad, bad, bad})
		wantErrors(t, name, b, ordinary(), [9]api.Errno{bad, bad, bad, bad, bad, bad, bad, bad, bad})
	}
	wantErrors(t, "the ordinary question", example(), ordinary(), [9]api.Errno{})
	wantErrors(t, "all that is wrong", example(), worst, [9]api.Errno{ask, ask, ask, ask, ask, ask, ask, ask, ask})
}

// P5.1 to P5.7, R1, R2: wrong questions.
func TestWrongQuestions(t *testing.T) {
	const ask = api.ErrCycleAsk
	for _, n := range []int{-1, 2, math.MinInt, math.MaxInt} {
		q := asking(func(q *question) { q.form = n })
		wantErrors(t, "no such form", example(), q, [9]api.Errno{ask, ask, ask})
		q = asking(func(q *question) { q.spot.Form = n })
		wantErrors(t, "a spot in no form", example(), q, [9]api.Errno{3: ask, 6: ask})
	}
	for _, n := range []int{-1, 3, math.MinInt, math.MaxInt} {
		q := asking(func(q *question) { q.gong = n })
		wantErrors(t, "no such gong", example(), q, [9]api.Errno{1: ask, 2: ask})
		q = asking(func(q *question) { q.heard = heard(at(2), at(n)) })
		wantErrors(t, "no such gong was heard", example(), q, [9]api.Errno{4: ask, 5: ask, 6: ask})
	}
	for _, n := range []int{-1, 100001, math.MinInt, math.MaxInt} {
		q := asking(func(q *question) { q.beat = n })
		wantErrors(t, "no such beat", example(), q, [9]api.Errno{ask, ask})
	}
	for _, n := range []int{-1, 4, 7, math.MinInt, math.MaxInt} {
		q := asking(func(q *question) { q.spot = spot(1, n) })
		wantErrors(t, "no such spot", example(), q, [9]api.Errno{3: ask, 6: ask})
	}
	for _, n := range []int{-1, 0, 65, math.MinInt, math.MaxInt} {
		q := asking(func(q *question) { q.many = n })
		wantErrors(t, "no such passage", example(), q, [9]api.Errno{3: ask, 7: ask})
	}
	for _, n := range []int{-1, 7, math.MinInt, math.MaxInt} {
		q := asking(func(q *question) { q.lost = n })
		wantErrors(t, "no such strokes", example(), q, [9]api.Errno{4: ask, 7: ask, 8: ask})
	}
	for _, h := range [][][]int{nil, make([][]int, 65), heard(at(2, 1)), heard(nil, at(1, 1)), heard(at(0, 1, 2, 3)), append(make([][]int, 63), at(2, 2))} {
		q := asking(func(q *question) { q.heard = h })
		wantErrors(t, "what cannot be heard", example(), q, [9]api.Errno{4: ask, 5: ask, 6: ask})
	}
}

// P5.2, P5.5 to P5.7, R1, R2: where there is no such thing, and wrong questions of that.
func TestNone(t *testing.T) {
	const ask, none = api.ErrCycleAsk, api.ErrNone
	q := asking(func(q *question) { q.gong, q.spot, q.heard = 1, spot(0, 0), heard(at(1)) })
	wantErrors(t, "a gong that is not struck", uneven(), q, [9]api.Errno{1: none, 2: none, 6: none})
	q.beat, q.spot.Begin = -1, 12
	wantErrors(t, "the same at no beat", uneven(), q, [9]api.Errno{ask, ask, none, ask, 6: ask})
	q = asking(func(q *question) { q.heard, q.many = heard(at(2), at(2)), 64 })
	wantErrors(t, "what can begin at no spot", example(), q, [9]api.Errno{5: none, 6: none, 7: none})
	q.spot.Form = 2
	wantErrors(t, "the same at no spot of the book", example(), q, [9]api.Errno{3: ask, 5: none, 6: ask, 7: none})
	wantErrors(t, "no spots that are known", great(), asking(func(q *question) { q.many, q.heard = 64, heard(nil) }), [9]api.Errno{8: none})
}

// P5.1: what is struck at a beat.
func TestStruck(t *testing.T) {
	for _, x := range []struct {
		b          api.CycleBook
		form, beat int
		want       []int
	}{
		{example(), 0, 15, at(0, 1)},
		{example(), 0, 5, nil},
		{example(), 0, 0, at(2)},
		{example(), 0, 7, at(0, 1)},
		{example(), 0, 8, at(2)},
		{example(), 1, 3, at(0)},
		{example(), 1, 5, at(1)},
		{example(), 0, 99999, at(0, 1)},
		{example(), 0, 100000, at(2)},
		{example(), 1, 99999, at(0)},
		{small(), 0, 100000, nil},
		{small(), 0, 99999, at(0)},
		{great(), 3, 0, at(1, 2, 3)},
		{great(), 3, 31, at(0, 1)},
		{great(), 3, 63, at(0, 1)},
		{uneven(), 0, 100000, nil},
		{uneven(), 0, 99996, at(3, 4)},
	} {
		if list, e := cycle.Struck(x.b, x.form, x.beat); !slices.Equal(list, x.want) || e != api.OK {
			t.Errorf("Struck of %v, %d, %d: %v, %d, not %v", x.b, x.form, x.beat, list, e, x.want)
		}
	}
}

// P5.2: the next stroke of a gong.
func TestNext(t *testing.T) {
	for _, x := range []struct {
		b                      api.CycleBook
		form, gong, beat, want int
		e                      api.Errno
	}{
		{example(), 0, 1, 4, 7, api.OK},
		{example(), 0, 1, 8, 11, api.OK},
		{example(), 0, 1, 3, 3, api.OK},
		{example(), 0, 1, 7, 7, api.OK},
		{example(), 0, 0, 0, 7, api.OK},
		{example(), 0, 0, 8, 15, api.OK},
		{example(), 1, 0, 8, 11, api.OK},
		{example(), 1, 1, 2, 5, api.OK},
		{example(), 0, 0, 100000, 100007, api.OK},
		{example(), 0, 2, 100000, 100000, api.OK},
		{great(), 0, 0, 0, 31, api.OK},
		{great(), 0, 0, 100000, 100031, api.OK},
		{great(), 0, 3, 17, 32, api.OK},
		{great(), 0, 4, 0, 0, api.ErrNone},
		{uneven(), 0, 1, 0, 0, api.ErrNone},
		{uneven(), 1, 1, 0, 0, api.OK},
		{uneven(), 1, 1, 5, 6, api.OK},
	} {
		if n, e := cycle.Next(x.b, x.form, x.gong, x.beat); n != x.want || e != x.e {
			t.Errorf("Next of %v, %d, %d, %d: %d, %d, not %d, %d", x.b, x.form, x.gong, x.beat, n, e, x.want, x.e)
		}
	}
}

// P5.2: strokes that are always as far apart.
func TestEven(t *testing.T) {
	for _, x := range []struct {
		b                api.CycleBook
		form, gong, want int
		e                api.Errno
	}{
		{example(), 0, 0, 8, api.OK},
		{example(), 0, 1, 4, api.OK},
		{example(), 0, 2, 2, api.OK},
		{example(), 1, 0, 4, api.OK},
		{example(), 1, 1, 4, api.OK},
		{example(), 1, 2, 2, api.OK},
		{uneven(), 0, 0, 12, api.OK},
		{uneven(), 0, 1, 0, api.ErrNone},
		{uneven(), 0, 2, 12, api.OK},
		{uneven(), 0, 3, 6, api.OK},
		{uneven(), 0, 4, 0, api.ErrNone},
		{uneven(), 1, 1, 2, api.OK},
		// As far apart within the cycle, but not from it to the next one.
		{uneven(), 1, 2, 0, api.ErrNone},
		{uneven(), 1, 3, 1, api.OK},
		// As far apart from the last to the first one as from the first one on, but not between.
		{uneven(), 1, 4, 0, api.ErrNone},
		{great(), 0, 1, 1, api.OK},
		{great(), 0, 2, 0, api.ErrNone},
		{great(), 0, 3, 16, api.OK},
		{small(), 0, 0, 2, api.OK},
	} {
		if n, e := cycle.Even(x.b, x.form, x.gong); n != x.want || e != x.e {
			t.Errorf("Even of %v, %d, %d: %d, %d, not %d, %d", x.b, x.form, x.gong, n, e, x.want, x.e)
		}
	}
}

// P5.3: what is struck in a passage.
func TestPassage(t *testing.T) {
	for _, x := range []struct {
		b    api.CycleBook
		spot api.CycleSpot
		many int
		want [][]int
	}{
		{example(), spot(0, 5), 4, heard(nil, at(2), at(0, 1), at(2))},
		{example(), spot(1, 3), 1, heard(at(0))},
		{example(), spot(1, 0), 6, heard(at(2), at(1), at(2), at(0), at(2), at(1))},
		{example(), spot(0, 0), 9, heard(at(2), nil, at(2), at(1), at(2), nil, at(2), at(0, 1), at(2))},
		{small(), spot(0, 1), 64, slices.Repeat(heard(at(0), nil), 32)},
		{great(), spot(3, 31), 2, heard(at(0, 1), at(1, 2, 3))},
	} {
		if list, e := cycle.Passage(x.b, x.spot, x.many); !slices.EqualFunc(list, x.want, slices.Equal) || e != api.OK {
			t.Errorf("Passage of %v, %v, %d: %v, %d, not %v", x.b, x.spot, x.many, list, e, x.want)
		}
	}
}

// P5.4: where a passage can begin.
func TestPlaces(t *testing.T) {
	twos := heard(at(2), nil, at(2))
	for _, x := range []struct {
		b     api.CycleBook
		heard [][]int
		lost  int
		want  []api.CycleSpot
	}{
		{example(), twos, 0, []api.CycleSpot{spot(0, 0), spot(0, 4)}},
		{example(), twos, 1, []api.CycleSpot{spot(0, 0), spot(0, 2), spot(0, 4), spot(1, 0), spot(1, 2)}},
		{example(), twos, 2, []api.CycleSpot{spot(0, 0), spot(0, 2), spot(0, 4), spot(0, 6), spot(1, 0), spot(1, 2)}},
		{example(), heard(at(2), at(2)), 6, nil},
		{example(), heard(at(0)), 0, []api.CycleSpot{spot(1, 3)}},
		{example(), heard(at(0)), 1, []api.CycleSpot{spot(0, 7), spot(1, 3)}},
		{example(), heard(at(0, 1)), 0, []api.CycleSpot{spot(0, 7)}},
		{example(), heard(at(0, 2)), 6, nil},
		{example(), heard(nil), 0, []api.CycleSpot{spot(0, 1), spot(0, 5)}},
		{small(), heard(nil), 0, []api.CycleSpot{spot(0, 0)}},
		{small(), heard(nil), 1, []api.CycleSpot{spot(0, 0), spot(0, 1)}},
		{small(), make([][]int, 12), 6, []api.CycleSpot{spot(0, 0), spot(0, 1)}},
		{small(), make([][]int, 13), 6, []api.CycleSpot{spot(0, 0)}},
		{small(), make([][]int, 14), 6, nil},
		{small(), slices.Repeat(heard(nil, at(0)), 32), 0, []api.CycleSpot{spot(0, 0)}},
		{forms(form(3, at(2)), form(3, at(2))), heard(at(0)), 0, []api.CycleSpot{spot(0, 2), spot(1, 2)}},
	} {
		if list, e := cycle.Places(x.b, x.heard, x.lost); !slices.Equal(list, x.want) || e != api.OK {
			t.Errorf("Places of %v, %v, %d: %v, %d, not %v", x.b, x.heard, x.lost, list, e, x.want)
		}
	}
}

// P5.5: how few strokes can have been lost.
func TestLeast(t *testing.T) {
	for _, x := range []struct {
		b     api.CycleBook
		heard [][]int
		want  int
		e     api.Errno
	}{
		{example(), heard(at(2), nil, at(2)), 0, api.OK},
		{example(), heard(at(2), at(2)), 0, api.ErrNone},
		{example(), heard(nil, nil), 1, api.OK},
		{example(), heard(at(2), at(0)), 0, api.OK},
		{example(), heard(at(2), nil, nil, at(1)), 1, api.OK},
		// More than the strokes that Places can be asked for.
		{small(), make([][]int, 64), 32, api.OK},
		{small(), make([][]int, 63), 31, api.OK},
		{great(), make([][]int, 64), 2 + 64 + 62 + 4, api.OK},
	} {
		if n, e := cycle.Least(x.b, x.heard); n != x.want || e != x.e {
			t.Errorf("Least of %v, %v: %d, %d, not %d, %d", x.b, x.heard, n, e, x.want, x.e)
		}
	}
}

// P5.5: the strokes that were lost.
func TestMissing(t *testing.T) {
	twos := heard(at(2), nil, at(2))
	for _, x := range []struct {
		spot  api.CycleSpot
		heard [][]int
		want  []api.CycleStroke
		e     api.Errno
	}{
		{spot(0, 6), twos, []api.CycleStroke{stroke(1, 0), stroke(1, 1)}, api.OK},
		{spot(0, 1), twos, nil, api.ErrNone},
		{spot(0, 0), twos, nil, api.OK},
		{spot(1, 2), twos, []api.CycleStroke{stroke(1, 0)}, api.OK},
		{spot(1, 1), twos, nil, api.ErrNone},
		{spot(0, 7), heard(at(1)), []api.CycleStroke{stroke(0, 0)}, api.OK},
		{spot(0, 7), heard(nil, nil), []api.CycleStroke{stroke(0, 0), stroke(0, 1), stroke(1, 2)}, api.OK},
		// Only the last beat does not fit.
		{spot(0, 0), heard(nil, nil, at(1, 2)), nil, api.ErrNone},
		{spot(1, 2), heard(nil, at(0), at(2), at(1), nil, at(0)), []api.CycleStroke{stroke(0, 2), stroke(4, 2)}, api.OK},
	} {
		if list, e := cycle.Missing(example(), x.spot, x.heard); !slices.Equal(list, x.want) || e != x.e {
			t.Errorf("Missing of %v, %v: %v, %d, not %v, %d", x.spot, x.heard, list, e, x.want, x.e)
		}
	}
	var lost []api.CycleStroke
	for n := range 32 {
		lost = append(lost, stroke(2*n+1, 0))
	}
	if list, e := cycle.Missing(small(), spot(0, 0), make([][]int, 64)); !slices.Equal(list, lost) || e != api.OK {
		t.Errorf("Missing of silence: %v, %d", list, e)
	}
}

// P5.6: the first two spots that can be confused.
func TestConfused(t *testing.T) {
	same := forms(form(3, at(2)), form(3, at(2)))
	for _, x := range []struct {
		name       string
		b          api.CycleBook
		lost, many int
		one, other api.CycleSpot
		e          api.Errno
	}{
		{"the example, 3 beats", example(), 0, 3, spot(0, 0), spot(0, 4), api.OK},
		{"the example, 4 beats", example(), 0, 4, spot(0, 0), spot(0, 0), api.ErrNone},
		{"a stroke lost, 11 beats", example(), 1, 11, spot(0, 0), spot(0, 4), api.OK},
		{"a stroke lost, 12 beats", example(), 1, 12, spot(0, 0), spot(0, 0), api.ErrNone},
		{"one beat, none lost", small(), 0, 1, spot(0, 0), spot(0, 0), api.ErrNone},
		{"one beat, one lost", small(), 1, 1, spot(0, 0), spot(0, 1), api.OK},
		{"two beats, one lost on each side", small(), 1, 2, spot(0, 0), spot(0, 1), api.OK},
		{"three beats, one lost", small(), 1, 3, spot(0, 0), spot(0, 0), api.ErrNone},
		{"twelve beats, six lost", small(), 6, 12, spot(0, 0), spot(0, 1), api.OK},
		{"thirteen beats, six lost", small(), 6, 13, spot(0, 0), spot(0, 0), api.ErrNone},
		{"twins, 63 beats", twins(32), 1, 63, spot(0, 0), spot(1, 0), api.OK},
		{"twins, 64 beats", twins(32), 1, 64, spot(0, 0), spot(0, 0), api.ErrNone},
		{"shorter twins, 64 beats", twins(13), 4, 64, spot(0, 0), spot(1, 0), api.OK},
		{"the same forms, 64 beats", same, 0, 64, spot(0, 0), spot(1, 0), api.OK},
		{"the first one with the first one for it", same, 0, 1, spot(0, 0), spot(0, 1), api.OK},
		{"an earlier one with a later one", forms(form(3, at(2), at(0)), form(2, at(1), at(0))), 0, 1, spot(0, 0), spot(1, 0), api.OK},
		{"two lost on one side are too many", forms(form(2, at(1), at(0), at(0)), form(2, at(1), nil, nil)), 1, 1, spot(0, 1), spot(1, 0), api.OK},
	} {
		if one, other, e := cycle.Confused(x.b, x.lost, x.many); one != x.one || other != x.other || e != x.e {
			t.Errorf("%s: %v, %v, %d", x.name, one, other, e)
		}
	}
}

// twins is a book of two forms that differ in a gong at their last beat alone.
func twins(beats int) api.CycleBook {
	return forms(form(beats, at(beats-1), at(beats-1)), form(beats, at(beats-1), nil))
}

// P5.7: the beats that are enough.
func TestSure(t *testing.T) {
	for _, x := range []struct {
		name       string
		b          api.CycleBook
		lost, want int
		e          api.Errno
	}{
		{"the example", example(), 0, 4, api.OK},
		{"the example, a stroke lost", example(), 1, 12, api.OK},
		{"a beat", small(), 0, 1, api.OK},
		{"two strokes each", small(), 1, 3, api.OK},
		{"six strokes lost", small(), 6, 13, api.OK},
		{"the same forms", forms(form(3, at(2)), form(3, at(2))), 0, 0, api.ErrNone},
		{"a cycle but for its last beat", forms(form(32, at(31))), 0, 31, api.OK},
		{"two cycles but for the last beat", forms(form(32, at(31))), 1, 63, api.OK},
		{"forms that differ at their end", twins(32), 0, 32, api.OK},
		{"just 64 beats", twins(32), 1, 64, api.OK},
		{"two beats more", twins(22), 2, 0, api.ErrNone},
		{"just a beat more", twins(13), 4, 0, api.ErrNone},
		{"far more", twins(32), 6, 0, api.ErrNone},
	} {
		if n, e := cycle.Sure(x.b, x.lost); n != x.want || e != x.e {
			t.Errorf("%s: %d, %d, not %d, %d", x.name, n, e, x.want, x.e)
		}
	}
}

func copied(b api.CycleBook) api.CycleBook {
	b.Forms = slices.Clone(b.Forms)
	for i := range b.Forms {
		b.Forms[i].Strokes = copiedLists(b.Forms[i].Strokes)
	}
	return b
}

func copiedLists(lists [][]int) [][]int {
	lists = slices.Clone(lists)
	for i := range lists {
		lists[i] = slices.Clone(lists[i])
	}
	return lists
}

// P5.8, R4: nothing of an argument is changed, nor what lies behind its lists.
func TestArguments(t *testing.T) {
	for _, whole := range []api.CycleBook{example(), uneven(), great()} {
		longer := copied(whole)
		longer.Forms = append(longer.Forms, form(5, at(4)))
		for i := range longer.Forms {
			longer.Forms[i].Strokes = append(longer.Forms[i].Strokes, at(1))
		}
		before := copied(longer)
		b := longer
		b.Forms = slices.Clone(longer.Forms[:len(whole.Forms)])
		for i := range b.Forms {
			b.Forms[i].Strokes = longer.Forms[i].Strokes[:whole.Gongs]
		}
		q := ordinary()
		beats := heard(at(2), nil, at(2), at(1))
		q.heard = beats[:3]
		answers(b, q)
		if !reflect.DeepEqual(longer, before) || !reflect.DeepEqual(b, whole) {
			t.Errorf("a book was changed: %v is %v", before, longer)
		}
		if !reflect.DeepEqual(beats, heard(at(2), nil, at(2), at(1))) {
			t.Errorf("what was heard was changed: %v", beats)
		}
	}
}

// P5.8, R4: results share no memory, neither with each other nor with an argument or a later call.
func TestMemory(t *testing.T) {
	b, q := example(), ordinary()
	b.Forms[0].Strokes[1] = at(1, 3, 5, 7)
	q.spot, q.heard = spot(0, 0), heard(nil, at(1), nil)
	want, _ := answers(b, q)
	struck, _ := cycle.Struck(b, 0, 7)
	passage, _ := cycle.Passage(b, q.spot, q.many)
	places, _ := cycle.Places(b, q.heard, 6)
	missing, _ := cycle.Missing(b, q.spot, q.heard)
	if len(struck) == 0 || len(passage) < 2 || len(places) == 0 || len(missing) == 0 {
		t.Fatalf("%v, %v, %v, %v", struck, passage, places, missing)
	}
	_ = append(passage[0], -1, -1)
	if !slices.Equal(passage[1], at(1)) {
		t.Errorf("Passage: the gongs of a beat were changed by those of another one: %v", passage[1])
	}
	struck[0], places[0], missing[0] = -1, spot(-1, -1), stroke(-1, -1)
	for _, list := range passage {
		for i := range list {
			list[i] = -1
		}
	}
	if again, _ := answers(b, q); !reflect.DeepEqual(again, want) {
		t.Errorf("%v after results were changed, not %v", again, want)
	}
}

// R3: nil and empty are the same.
func TestNilAndEmpty(t *testing.T) {
	none, noForms := uneven(), uneven()
	none.Forms[0].Strokes[1] = []int{}
	noForms.Forms = []api.CycleForm{}
	noLists := forms(form(2, at(1)))
	noLists.Forms[0].Strokes = [][]int{}
	bare := forms(form(2, at(1)))
	bare.Forms[0].Strokes = nil
	for _, pair := range [][2]api.CycleBook{{uneven(), none}, {{Gongs: 5}, noForms}, {bare, noLists}} {
		for _, lists := range [][2][][]int{{nil, {}}, {{nil, nil}, {{}, {}}}, {{nil, at(3)}, {{}, at(3)}}} {
			one, e := answers(pair[0], asking(func(q *question) { q.heard = lists[0] }))
			other, f := answers(pair[1], asking(func(q *question) { q.heard = lists[1] }))
			if !reflect.DeepEqual(one, other) || e != f {
				t.Errorf("%v: %v, %v; %v: %v, %v", pair[0], one, e, pair[1], other, f)
			}
		}
	}
}

// P2: a call says the same, whatever was called before.
func TestSameAgain(t *testing.T) {
	books := []api.CycleBook{example(), uneven(), great(), small(), {}}
	for _, b := range books {
		first, e := answers(b, ordinary())
		for _, between := range books {
			answers(between, question{form: 1, gong: 2, beat: 9, many: 20, lost: 3, spot: spot(1, 1), heard: make([][]int, 9)})
		}
		if again, f := answers(b, ordinary()); !reflect.DeepEqual(first, again) || e != f {
			t.Errorf("%v: %v, and then %v", b, first, again)
		}
	}
}
