package heard_test

import (
	"math"
	"reflect"
	"slices"
	"strconv"
	"strings"
	"testing"

	"saron/api"
	"saron/heard"
)

func of(numbers ...int) []int { return numbers }

// played returns the tones that digits stand for.
func played(digits string) []int {
	var list []int
	for _, d := range digits {
		list = append(list, int(d-'0'))
	}
	return list
}

func piece(form int, digits string) api.HeardPiece {
	return api.HeardPiece{Form: form, Tones: played(digits)}
}

func note(digits string, lost, wrong int, gongs ...int) api.HeardNote {
	return api.HeardNote{Tones: played(digits), Gongs: gongs, Lost: lost, Wrong: wrong}
}

// forms are those of the examples: the great gong ends 8 beats, or 4.
func forms() api.CycleBook {
	return api.CycleBook{Gongs: 3, Forms: []api.CycleForm{
		{Beats: 8, Strokes: [][]int{{7}, {3, 7}, {0, 2, 4, 6}}},
		{Beats: 4, Strokes: [][]int{{3}, {1}, {0, 2}}},
	}}
}

func bookOf(pieces ...api.HeardPiece) api.HeardBook {
	return api.HeardBook{Forms: forms(), Pieces: pieces}
}

// example is the book of the chapter's examples.
func example() api.HeardBook {
	return bookOf(piece(1, "024210"), piece(0, "0232421"), piece(1, "42102"))
}

// changed returns the book of the examples after a change.
func changed(change func(b *api.HeardBook)) api.HeardBook {
	b := example()
	change(&b)
	return b
}

// great is a book as great as can be.
func great() api.HeardBook {
	long := strings.Repeat("343433", 4)
	return bookOf(piece(1, long), piece(1, long), piece(0, long), piece(1, strings.Repeat("3", 24)), piece(1, long), piece(0, strings.Repeat("6", 24)))
}

// small is a book as small as can be.
func small() api.HeardBook {
	return api.HeardBook{
		Forms:  api.CycleBook{Gongs: 1, Forms: []api.CycleForm{{Beats: 2, Strokes: [][]int{{1}}}}},
		Pieces: []api.HeardPiece{piece(0, "6")},
	}
}

func validBooks() map[string]api.HeardBook {
	return map[string]api.HeardBook{
		"the example":     example(),
		"great":           great(),
		"small":           small(),
		"the same pieces": bookOf(piece(0, "0123456"), piece(0, "0123456")),
		"all tones":       bookOf(piece(0, "0"), piece(1, "6543210")),
	}
}

func wrongBooks() map[string]api.HeardBook {
	books := map[string]api.HeardBook{"nothing": {}}
	for name, change := range map[string]func(b *api.HeardBook){
		"no forms":                   func(b *api.HeardBook) { b.Forms.Forms = nil },
		"no book of forms":           func(b *api.HeardBook) { b.Forms = api.CycleBook{} },
		"a form without a great one": func(b *api.HeardBook) { b.Forms.Forms[1].Strokes[0] = nil },
		"a form that is not asked":   func(b *api.HeardBook) { b.Forms.Forms[0].Beats, b.Pieces = 1, b.Pieces[:1] },
		"a wrong number of gongs":    func(b *api.HeardBook) { b.Forms.Gongs = 4 },
		"no pieces":                  func(b *api.HeardBook) { b.Pieces = nil },
		"7 pieces":                   func(b *api.HeardBook) { b.Pieces = slices.Repeat(b.Pieces[:1], 7) },
		"far too many pieces":        func(b *api.HeardBook) { b.Pieces = slices.Repeat(b.Pieces, 1000) },
		"a form too far":             func(b *api.HeardBook) { b.Pieces[1].Form = 2 },
		"a form below 0":             func(b *api.HeardBook) { b.Pieces[0].Form = -1 },
		"a form far too great":       func(b *api.HeardBook) { b.Pieces[2].Form = math.MaxInt },
		"a form far below 0":         func(b *api.HeardBook) { b.Pieces[2].Form = math.MinInt },
		"a piece of nothing":         func(b *api.HeardBook) { b.Pieces[2] = api.HeardPiece{} },
		"no tones":                   func(b *api.HeardBook) { b.Pieces[1].Tones = nil },
		"25 tones":                   func(b *api.HeardBook) { b.Pieces[1].Tones = make([]int, 25) },
		"far too many tones":         func(b *api.HeardBook) { b.Pieces[1].Tones = make([]int, 1000) },
		"a tone below 0":             func(b *api.HeardBook) { b.Pieces[0].Tones[0] = -1 },
		"a tone above 6":             func(b *api.HeardBook) { b.Pieces[2].Tones[4] = 7 },
		"a tone far too great":       func(b *api.HeardBook) { b.Pieces[1].Tones[3] = math.MaxInt },
		"a tone far below 0":         func(b *api.HeardBook) { b.Pieces[1].Tones[3] = math.MinInt },
	} {
		books[name] = changed(change)
	}
	return books
}

// question is what the functions are asked of a book.
type question struct {
	piece, which, one, other, lost int
	note                           api.HeardNote
	notes                          []api.HeardNote
	tones                          []int
}

func ordinary() question {
	return question{
		piece: 1, which: 1, one: 0, other: 2, lost: 2, note: note("22", 1, 0),
		notes: []api.HeardNote{note("241", 1, 0), note("22", 1, 0)}, tones: played("02421"),
	}
}

// asking returns the ordinary question after a change.
func asking(change func(q *question)) question {
	q := ordinary()
	change(&q)
	return q
}

// The numbers of the functions, in the order of the chapter.
const (
	fits = iota
	pieces
	begins
	strokes
	least
	all
	common
	whole
	known
	functions
)

// answers returns what each function says of a book, and the error of it.
func answers(b api.HeardBook, q question) ([functions]any, [functions]api.Errno) {
	var results [functions]any
	var errors [functions]api.Errno
	results[fits], errors[fits] = heard.Fits(b, q.piece, q.note)
	results[pieces], errors[pieces] = heard.Pieces(b, q.note)
	results[begins], errors[begins] = heard.Begins(b, q.piece, q.note)
	results[strokes], errors[strokes] = heard.Strokes(b, q.piece, q.note, q.which)
	results[least], errors[least] = heard.Least(b, q.piece, q.note)
	results[all], errors[all] = heard.All(b, q.notes)
	results[common], errors[common] = heard.Common(b, q.one, q.other)
	results[whole], errors[whole] = heard.Whole(b, q.tones, q.lost)
	results[known], errors[known] = heard.Known(b)
	return results, errors
}

// wantErrors checks the errors of all functions, and that what comes with an error is zero (R2).
func wantErrors(t *testing.T, name string, b api.HeardBook, q question, want [functions]api.Errno) {
	t.Helper()
	results, errors := answers(b, q)
	if errors != want {
		t.Errorf("%s: the errors are %v, not %v", name, errors, want)
	}
	for i, r := range results {
		v := reflect.ValueOf(r)
		empty := v.IsZero() || v.Kind() == reflect.Slice && v.Len() == 0
		if errors[i] != api.OK && !empty {
			t.Errorf("%s: the result %d comes with an error: %v", name, i, r)
		}
	}
}

// P9.1: what is valid.
func TestCheck(t *testing.T) {
	for name, b := range validBooks() {
		if e := heard.Check(b); e != api.OK {
			t.Errorf("%s: %d", name, e)
		}
	}
	for name, b := range wrongBooks() {
		if e := heard.Check(b); e != api.ErrHeard {
			t.Errorf("%s: %d", name, e)
		}
	}
}

// P9.1 to P9.7, R1, R2: the error of a wrong book comes first.
func TestWrongBooks(t *testing.T) {
	var bad [functions]api.Errno
	for i := range bad {
		bad[i] = api.ErrHeard
	}
	worst := question{piece: -1, which: -1, one: -1, other: 9, lost: -1, note: note("7", 7, 7, 1), tones: of(-1)}
	for name, b := range wrongBooks() {
		wantErrors(t, name, b, worst, bad)
		wantErrors(t, name, b, ordinary(), bad)
		wantErrors(t, name, b, question{}, bad)
	}
	wantErrors(t, "the ordinary question", example(), ordinary(), [functions]api.Errno{})
	const ask = api.ErrHeardAsk
	wantErrors(t, "all that is wrong", example(), worst, [functions]api.Errno{ask, ask, ask, ask, ask, ask, ask, ask})
}

// P9.1 to P9.5, R1, R2: pieces and notes that there are not.
func TestWrongNumbers(t *testing.T) {
	const ask = api.ErrHeardAsk
	for _, n := range of(-1, 3, 6, math.MinInt, math.MaxInt) {
		q := asking(func(q *question) { q.piece = n })
		wantErrors(t, "no piece", example(), q, [functions]api.Errno{fits: ask, begins: ask, strokes: ask, least: ask})
		q = asking(func(q *question) { q.one = n })
		wantErrors(t, "no one piece", example(), q, [functions]api.Errno{common: ask})
		q = asking(func(q *question) { q.other = n })
		wantErrors(t, "no other piece", example(), q, [functions]api.Errno{common: ask})
	}
	for _, n := range of(-1, 2, 24, math.MinInt, math.MaxInt) {
		q := asking(func(q *question) { q.which = n })
		wantErrors(t, "no note", example(), q, [functions]api.Errno{strokes: ask})
		q.note = note("66", 0, 0)
		wantErrors(t, "no note of what does not fit", example(), q, [functions]api.Errno{strokes: ask, least: api.ErrNone})
	}
	for _, n := range of(-1, 7, math.MinInt, math.MaxInt) {
		q := asking(func(q *question) { q.lost = n })
		wantErrors(t, "no number of lost strokes", example(), q, [functions]api.Errno{whole: ask})
	}
}

// wrongNotes returns what cannot be written.
func wrongNotes() map[string]api.HeardNote {
	notes := map[string]api.HeardNote{
		"nothing": {}, "no tones": note("", 1, 0), "25 tones": note(strings.Repeat("2", 25), 1, 0),
		"far too many tones": {Tones: make([]int, 1000)}, "a tone above 6": note("27", 1, 0),
		"a tone below 0": {Tones: of(-1, 2)}, "a tone far too great": {Tones: of(2, math.MaxInt)},
		"a tone far below 0": {Tones: of(math.MinInt)}, "a gong twice": note("22", 1, 0, 1, 1),
		"gongs that decrease": note("22", 1, 0, 1, 0), "a gong too much": note("22", 1, 0, 0, 1, 2),
		"a gong at first, then one below": note("222", 1, 0, 1, 2, 0),
	}
	for _, n := range of(-1, 2, math.MinInt, math.MaxInt) {
		notes["the gong "+strconv.Itoa(n)] = note("22", 1, 0, n)
	}
	for _, n := range of(-1, 7, math.MinInt, math.MaxInt) {
		notes["lost "+strconv.Itoa(n)] = note("22", n, 0)
		notes["wrong "+strconv.Itoa(n)] = note("22", 1, n)
	}
	return notes
}

// P9.1 to P9.4, R1, R2: what cannot be written.
func TestWrongNotes(t *testing.T) {
	const ask = api.ErrHeardAsk
	for name, n := range wrongNotes() {
		q := asking(func(q *question) { q.note = n })
		wantErrors(t, name, example(), q, [functions]api.Errno{fits: ask, pieces: ask, begins: ask, strokes: ask, least: ask})
		for i := range 2 {
			q := asking(func(q *question) { q.notes[i] = n })
			wantErrors(t, name, example(), q, [functions]api.Errno{all: ask})
		}
	}
	for _, n := range []api.HeardNote{
		note("22", 0, 0), note("22", 6, 6), note("22", 1, 0, 0, 1), note("06", 1, 0, 1), note(strings.Repeat("2", 24), 1, 0, 23), note("2", 1, 0, 0),
	} {
		if _, e := heard.Pieces(example(), n); e != api.OK {
			t.Errorf("%v: %d", n, e)
		}
	}
	for _, many := range of(0, 7, 1000) {
		q := asking(func(q *question) { q.notes = slices.Repeat([]api.HeardNote{note("66", 0, 0)}, many) })
		wantErrors(t, "so many notes: "+strconv.Itoa(many), example(), q, [functions]api.Errno{all: ask})
	}
	for _, many := range of(1, 6) {
		q := asking(func(q *question) { q.notes = slices.Repeat([]api.HeardNote{note("22", 1, 0)}, many) })
		wantErrors(t, "so many notes: "+strconv.Itoa(many), example(), q, [functions]api.Errno{})
	}
}

// P9.6, R1, R2: what cannot be the tones of a whole piece.
func TestWrongTones(t *testing.T) {
	const ask = api.ErrHeardAsk
	for _, list := range [][]int{
		make([]int, 25), make([]int, 1000), of(-1), of(7), of(0, 2, 4, 2, 1, 7), of(math.MinInt, 2), of(0, math.MaxInt),
	} {
		q := asking(func(q *question) { q.tones = list })
		wantErrors(t, "no tones", example(), q, [functions]api.Errno{whole: ask})
	}
	for _, list := range [][]int{nil, of(6), of(0), make([]int, 24)} {
		wantErrors(t, "tones", example(), asking(func(q *question) { q.tones = list }), [functions]api.Errno{})
	}
}

// P9.4, P9.7, R2: where there is no such thing.
func TestNone(t *testing.T) {
	const none = api.ErrNone
	twins := bookOf(piece(0, "012"), piece(1, "210"), piece(1, "012"))
	q := asking(func(q *question) { q.note = note("40", 6, 6, 0, 1) })
	wantErrors(t, "two pieces with the same tones", twins, q, [functions]api.Errno{least: none, known: none})
	wantErrors(t, "the great book", great(), ordinary(), [functions]api.Errno{known: none, least: none})
	for _, n := range []api.HeardNote{note("66", 6, 6), note("66", 0, 0, 0), note("240", 6, 0, 0, 1, 2)} {
		wantErrors(t, "what does not fit", example(), asking(func(q *question) { q.note = n }), [functions]api.Errno{least: none})
	}
}

// reading is what was written, what is told of it, and of each stroke which note it can be.
type reading struct {
	name  string
	note  api.HeardNote
	piece int
	want  [][]int
}

// wantReading checks all that is told of what was written in a piece.
func wantReading(t *testing.T, b api.HeardBook, x reading) {
	t.Helper()
	isAny := len(x.want) > 0
	if is, e := heard.Fits(b, x.piece, x.note); is != isAny || e != api.OK {
		t.Errorf("%s: Fits: %v, %d", x.name, is, e)
	}
	list, e := heard.Pieces(b, x.note)
	if slices.Contains(list, x.piece) != isAny || e != api.OK {
		t.Errorf("%s: Pieces: %v, %d", x.name, list, e)
	}
	for which := range x.note.Tones {
		var want []int
		if isAny {
			want = x.want[which]
		}
		if list, e := heard.Strokes(b, x.piece, x.note, which); !slices.Equal(list, want) || e != api.OK {
			t.Errorf("%s: Strokes of %d: %v, %d, not %v", x.name, which, list, e, want)
		}
		if list, e := heard.Begins(b, x.piece, x.note); which == 0 && !slices.Equal(list, want) || e != api.OK {
			t.Errorf("%s: Begins: %v, %d, not %v", x.name, list, e, want)
		}
	}
}

// P9.1 to P9.3: lost strokes, and where what was written begins.
func TestLostStrokes(t *testing.T) {
	lists := func(l ...[]int) [][]int { return l }
	for _, x := range []reading{
		{"A in the first piece", note("241", 1, 0), 0, lists(of(1), of(2), of(4))},
		{"A in the second piece", note("241", 1, 0), 1, lists(of(3), of(4), of(6))},
		{"A in the last piece", note("241", 1, 0), 2, nil},
		{"A without a lost stroke", note("241", 0, 0), 0, nil},
		{"C in the first piece", note("22", 1, 0), 0, lists(of(1), of(3))},
		{"C in the second piece", note("22", 1, 0), 1, lists(of(1, 3), of(3, 5))},
		{"C in the last piece", note("22", 1, 0), 2, nil},
		{"C in the last piece, two lost", note("22", 2, 0), 2, lists(of(1), of(4))},
		{"C with three lost", note("22", 3, 0), 1, lists(of(1, 3), of(3, 5))},
		{"one note", note("2", 0, 0), 1, lists(of(1, 3, 5))},
		{"the last stroke", note("1", 0, 0), 1, lists(of(6))},
		{"what was struck before and behind does not count", note("42", 0, 0), 1, lists(of(4), of(5))},
		{"a whole piece", note("0232421", 0, 0), 1, lists(of(0), of(1), of(2), of(3), of(4), of(5), of(6))},
		{"a note more than the piece", note("02324211", 6, 6), 1, nil},
		{"more notes than strokes", note(strings.Repeat("3", 24), 6, 6), 1, nil},
		{"the last note is behind the piece", note("214", 6, 0), 1, nil},
		{"the first way ends too soon", note("021", 6, 0), 1, lists(of(0), of(1, 3, 5), of(6))},
		{"lost in two places, together one too many", note("031", 3, 0), 1, nil},
		{"lost in two places", note("031", 4, 0), 1, lists(of(0), of(2), of(6))},
		{"the longer way is too long", note("24", 2, 0), 1, lists(of(1, 3), of(4))},
		{"the longer way is just not", note("24", 1, 0), 1, lists(of(3), of(4))},
		{"the other order", note("32", 0, 0), 1, lists(of(2), of(3))},
		{"no stroke is two notes", note("44", 6, 0), 1, nil},
	} {
		wantReading(t, example(), x)
	}
}

// P9.1 to P9.3: notes that are wrong by a neighbouring tone.
func TestWrongTonesOfNotes(t *testing.T) {
	lists := func(l ...[]int) [][]int { return l }
	b := bookOf(piece(0, "0246"), piece(0, "0135"), piece(0, "343"), piece(0, "060"))
	for _, x := range []reading{
		{"one more", note("3", 0, 1), 0, lists(of(1, 2))},
		{"none may be wrong", note("3", 0, 0), 0, nil},
		{"one less than the least is no tone", note("6", 0, 1), 3, lists(of(1))},
		{"one less", note("5", 0, 1), 3, lists(of(1))},
		{"two less", note("4", 0, 6), 3, nil},
		{"one above 0", note("1", 0, 1), 3, lists(of(0, 2))},
		{"two above 0", note("2", 0, 6), 3, nil},
		{"wrong and right alike", note("4", 0, 1), 2, lists(of(0, 1, 2))},
		{"right alone", note("4", 0, 0), 2, lists(of(1))},
		{"one of two may be wrong", note("44", 1, 1), 2, lists(of(0, 1), of(1, 2))},
		{"both may be wrong", note("44", 1, 2), 2, lists(of(0, 1), of(1, 2))},
		{"both must be wrong, and may not", note("33", 0, 1), 0, nil},
		{"both must be wrong", note("33", 0, 2), 0, lists(of(1), of(2))},
		{"three are wrong in all ways", note("135", 0, 3), 0, lists(of(0, 1), of(1, 2), of(2, 3))},
		{"three must be wrong, and two may", note("135", 0, 2), 0, nil},
		{"a right one, and two that must be wrong", note("024", 1, 2), 1, lists(of(0), of(1, 2), of(2, 3))},
		{"a right one, and two that must be wrong, of which one may", note("024", 1, 1), 1, nil},
		{"a wrong one at first leaves none for the last", note("114", 2, 1), 1, nil},
		{"wrong ones, but no lost ones", note("024", 0, 2), 1, lists(of(0), of(1), of(2))},
	} {
		wantReading(t, b, x)
	}
}

// P9.1 to P9.3: notes with which the great gong was heard.
func TestGongs(t *testing.T) {
	lists := func(l ...[]int) [][]int { return l }
	b := bookOf(piece(1, "222222222222"), piece(0, "222222222222"), piece(1, "024210"))
	for _, x := range []reading{
		{"the second note of C", note("22", 1, 0, 1), 2, lists(of(1), of(3))},
		{"the first note of C", note("22", 1, 0, 0), 2, nil},
		{"one note, three gongs", note("2", 0, 0, 0), 0, lists(of(3, 7, 11))},
		{"one note, one gong", note("2", 0, 0, 0), 1, lists(of(7))},
		{"no note before it", note("222", 0, 0, 0), 0, lists(of(3, 7), of(4, 8), of(5, 9))},
		{"the last note", note("22", 0, 0, 1), 0, lists(of(2, 6, 10), of(3, 7, 11))},
		{"gongs far apart", note("22", 3, 0, 0, 1), 0, lists(of(3, 7), of(7, 11))},
		{"gongs too near", note("22", 2, 0, 0, 1), 0, nil},
		{"gongs of two cycles, of one of which one was not heard", note("22", 6, 0, 0, 1), 0, lists(of(3, 7), of(7, 11))},
		{"a gong that was not heard", note("22222", 0, 0), 0, lists(of(0, 1, 2, 3, 4, 5, 6, 7), of(1, 2, 3, 4, 5, 6, 7, 8), of(2, 3, 4, 5, 6, 7, 8, 9), of(3, 4, 5, 6, 7, 8, 9, 10), of(4, 5, 6, 7, 8, 9, 10, 11))},
		{"two gongs where there is one", note("22", 6, 0, 0, 1), 1, nil},
		{"a wrong note with the gong", note("3", 0, 1, 0), 2, lists(of(3))},
		{"a gong between", note("222", 1, 0, 1), 1, lists(of(5, 6), of(7), of(8, 9))},
	} {
		wantReading(t, b, x)
	}
}

// P9.2: the pieces that one listener heard, and that several heard.
func TestPieces(t *testing.T) {
	a, c := note("241", 1, 0), note("22", 1, 0)
	for _, x := range []struct {
		name  string
		notes []api.HeardNote
		want  []int
	}{
		{"A", []api.HeardNote{a}, of(0, 1)},
		{"A with nothing lost", []api.HeardNote{note("241", 0, 0)}, nil},
		{"A with nothing lost, one wrong", []api.HeardNote{note("241", 0, 1)}, of(0, 1)},
		{"C", []api.HeardNote{c}, of(0, 1)},
		{"C with the great gong", []api.HeardNote{note("22", 1, 0, 1)}, of(0)},
		{"A and C", []api.HeardNote{a, c}, of(0, 1)},
		{"A and C with the great gong", []api.HeardNote{a, note("22", 1, 0, 1)}, of(0)},
		{"all pieces", []api.HeardNote{note("42", 0, 0), note("2", 6, 6)}, of(0, 1, 2)},
		{"the last one alone", []api.HeardNote{note("42", 0, 0), note("02", 0, 0), note("102", 0, 0)}, of(2)},
		{"each fits, but none all", []api.HeardNote{note("323", 1, 1), note("24", 0, 0), note("102", 0, 0)}, nil},
		{"six", slices.Repeat([]api.HeardNote{c}, 6), of(0, 1)},
		{"the sixth one", append(slices.Repeat([]api.HeardNote{c}, 5), note("3", 0, 0)), of(1)},
	} {
		if list, e := heard.All(example(), x.notes); !slices.Equal(list, x.want) || e != api.OK {
			t.Errorf("%s: All: %v, %d, not %v", x.name, list, e, x.want)
		}
		if list, e := heard.Pieces(example(), x.notes[0]); len(x.notes) == 1 && !slices.Equal(list, x.want) || e != api.OK {
			t.Errorf("%s: Pieces: %v, %d, not %v", x.name, list, e, x.want)
		}
	}
	if list, e := heard.Pieces(great(), note("4", 0, 1)); !slices.Equal(list, of(0, 1, 2, 3, 4)) || e != api.OK {
		t.Errorf("Pieces of the great book: %v, %d", list, e)
	}
	if list, e := heard.Pieces(great(), note("5", 0, 1)); !slices.Equal(list, of(0, 1, 2, 4, 5)) || e != api.OK {
		t.Errorf("Pieces of the great book, 5: %v, %d", list, e)
	}
}

// P9.4: how few strokes can have been lost.
func TestLeast(t *testing.T) {
	far := bookOf(piece(1, "0"+strings.Repeat("3", 22)+"6"), piece(1, "0"+strings.Repeat("3", 20)+"060"), piece(1, "03000303003"))
	for _, x := range []struct {
		name  string
		b     api.HeardBook
		piece int
		note  api.HeardNote
		want  int
		e     api.Errno
	}{
		{"0 4", example(), 1, note("04", 1, 0), 3, api.OK},
		{"4 0", example(), 1, note("40", 1, 0), 0, api.ErrNone},
		{"4 0, whatever may be lost", example(), 1, note("40", 6, 0), 0, api.ErrNone},
		{"4 0 with a wrong one", example(), 1, note("40", 0, 1), 1, api.OK},
		{"none", example(), 1, note("324", 6, 0), 0, api.OK},
		{"less than may be", example(), 0, note("241", 6, 0), 1, api.OK},
		{"just as may be", example(), 0, note("241", 1, 0), 1, api.OK},
		{"more than may be", example(), 0, note("241", 0, 0), 1, api.OK},
		{"one note", example(), 2, note("0", 6, 0), 0, api.OK},
		{"as many as there can be", far, 0, note("06", 0, 0), 22, api.OK},
		{"of several ways the shortest one", far, 1, note("06", 0, 0), 0, api.OK},
		{"of several ways the one in the middle", far, 2, note("033", 0, 0), 1, api.OK},
		{"of several ways, the great gong", far, 1, note("06", 0, 0, 0), 0, api.ErrNone},
		{"the great gong at the last stroke", far, 0, note("36", 0, 0, 1), 0, api.OK},
		{"the great gong far before", far, 0, note("336", 0, 0, 0), 2, api.OK},
		{"far between two of it", far, 0, note("33", 0, 0, 0, 1), 3, api.OK},
		{"more notes than strokes of their tone", far, 2, note("00000000", 6, 6), 0, api.ErrNone},
		{"too many wrong", far, 0, note("16", 0, 0), 0, api.ErrNone},
		{"just as many wrong", far, 0, note("15", 0, 2), 22, api.OK},
		{"more wrong are nearer", far, 0, note("46", 0, 1), 0, api.OK},
	} {
		if n, e := heard.Least(x.b, x.piece, x.note); n != x.want || e != x.e {
			t.Errorf("%s: %d, %d, not %d, %d", x.name, n, e, x.want, x.e)
		}
	}
}

// P9.5: how many tones two pieces share.
func TestCommon(t *testing.T) {
	b := bookOf(piece(0, "6"), piece(1, "0123456"), piece(0, "6543210"), piece(0, strings.Repeat("01", 12)), piece(1, strings.Repeat("0", 24)), piece(1, "3113"))
	for _, x := range []struct {
		b                api.HeardBook
		one, other, want int
	}{
		{example(), 0, 1, 5}, {example(), 0, 2, 4}, {example(), 1, 2, 3},
		{example(), 0, 0, 6}, {example(), 1, 1, 7}, {example(), 2, 2, 5},
		{b, 0, 1, 1}, {b, 0, 2, 1}, {b, 0, 3, 0}, {b, 1, 2, 1}, {b, 3, 4, 12}, {b, 4, 4, 24}, {b, 3, 3, 24}, {b, 1, 3, 2},
		{b, 3, 5, 2}, {b, 1, 5, 2}, {b, 4, 5, 0}, {b, 0, 0, 1}, {b, 2, 3, 2},
	} {
		for _, pair := range [][2]int{{x.one, x.other}, {x.other, x.one}} {
			if n, e := heard.Common(x.b, pair[0], pair[1]); n != x.want || e != api.OK {
				t.Errorf("Common of %v: %d, %d, not %d", pair, n, e, x.want)
			}
		}
	}
}

// P9.6: the pieces of which tones are the whole but for some strokes.
func TestWhole(t *testing.T) {
	b := bookOf(piece(0, "000000"), piece(1, "00"), piece(0, strings.Repeat("0", 24)), piece(1, "0000001"))
	for _, x := range []struct {
		name  string
		b     api.HeardBook
		tones string
		lost  int
		want  []int
	}{
		{"one lost", example(), "02421", 1, of(0)},
		{"two lost", example(), "02421", 2, of(0, 1)},
		{"none lost", example(), "02421", 0, nil},
		{"a whole piece", example(), "42102", 0, of(2)},
		{"a whole piece, others with more lost", example(), "024210", 6, of(0)},
		{"lost at first", example(), "2102", 1, of(2)},
		{"lost at first and at last", example(), "232", 4, of(1)},
		{"lost between, at first and at last", example(), "20", 4, of(0, 2)},
		{"lost between, one less", example(), "20", 3, of(2)},
		{"the other order", example(), "01", 6, of(0, 1)},
		{"in no piece", example(), "012", 6, nil},
		{"a tone that none has", example(), "6", 6, nil},
		{"a tone twice", example(), "3", 6, of(1)},
		{"a tone twice that is there once", example(), "33", 6, nil},
		{"nothing, six lost", b, "", 6, of(0, 1)},
		{"nothing, five lost", b, "", 5, of(1)},
		{"nothing, one lost", b, "", 1, nil},
		{"one, six lost", b, "0", 6, of(0, 1, 3)},
		{"more than the piece", b, "000", 6, of(0, 3)},
		{"18 of 24", b, strings.Repeat("0", 18), 6, of(2)},
		{"17 of 24", b, strings.Repeat("0", 17), 6, nil},
		{"24 of 24", b, strings.Repeat("0", 24), 0, of(2)},
		{"the end that is not of the piece", b, "00001", 2, of(3)},
	} {
		if list, e := heard.Whole(x.b, played(x.tones), x.lost); !slices.Equal(list, x.want) || e != api.OK {
			t.Errorf("%s: %v, %d, not %v", x.name, list, e, x.want)
		}
	}
}

// P9.7: how many strokes can be lost so that the piece is known.
func TestKnown(t *testing.T) {
	for _, x := range []struct {
		name string
		b    api.HeardBook
		want int
		e    api.Errno
	}{
		{"the example", example(), 1, api.OK},
		{"one piece", bookOf(piece(1, "024210")), 6, api.OK},
		{"one piece of one stroke", small(), 1, api.OK},
		{"one piece of 24 strokes", bookOf(piece(1, strings.Repeat("5", 24))), 24, api.OK},
		{"the same tones", bookOf(piece(0, "0242"), piece(0, "0242")), 0, api.ErrNone},
		{"the same tones in two forms", bookOf(piece(0, "0242"), piece(1, "0242")), 0, api.ErrNone},
		{"the same tones, the last ones", bookOf(piece(0, "1"), piece(1, "02"), piece(0, "02")), 0, api.ErrNone},
		{"a stroke more", bookOf(piece(0, "0242"), piece(0, "02421")), 0, api.OK},
		{"one other stroke", bookOf(piece(0, "0242"), piece(0, "0142")), 0, api.OK},
		{"two other strokes", bookOf(piece(0, "0242"), piece(0, "0131")), 2, api.OK},
		{"nothing in common", bookOf(piece(0, strings.Repeat("0", 24)), piece(0, strings.Repeat("1", 24))), 23, api.OK},
		{"nothing in common, one stroke", bookOf(piece(0, "0"), piece(0, "1")), 0, api.OK},
		{"a short one and a long one", bookOf(piece(0, "0"), piece(0, strings.Repeat("1", 24))), 23, api.OK},
		{"a part of the other one", bookOf(piece(0, strings.Repeat("1", 24)), piece(0, "1")), 22, api.OK},
		{"the nearest ones are the last ones", bookOf(piece(0, "000000"), piece(1, "111111"), piece(0, "112233"), piece(0, "222233")), 1, api.OK},
		{"the nearest ones are far from each other", bookOf(piece(0, "000001"), piece(1, "444444"), piece(0, "555555"), piece(0, "666666"), piece(0, "444444000000"), piece(0, "000061")), 0, api.OK},
	} {
		if n, e := heard.Known(x.b); n != x.want || e != x.e {
			t.Errorf("%s: %d, %d, not %d, %d", x.name, n, e, x.want, x.e)
		}
	}
}

// copied returns a book that shares no memory with another one.
func copied(b api.HeardBook) api.HeardBook {
	b.Pieces, b.Forms.Forms = slices.Clone(b.Pieces), slices.Clone(b.Forms.Forms)
	for i := range b.Pieces {
		b.Pieces[i].Tones = slices.Clone(b.Pieces[i].Tones)
	}
	for i := range b.Forms.Forms {
		b.Forms.Forms[i].Strokes = slices.Clone(b.Forms.Forms[i].Strokes)
		for gong := range b.Forms.Forms[i].Strokes {
			b.Forms.Forms[i].Strokes[gong] = slices.Clone(b.Forms.Forms[i].Strokes[gong])
		}
	}
	return b
}

// P9.8: arguments are only read, also behind their ends.
func TestArguments(t *testing.T) {
	b, q := example(), asking(func(q *question) { q.note.Gongs = of(1) })
	longer := append(b.Pieces, piece(0, "66"))
	first, written, gongs := append(b.Pieces[0].Tones, -7), append(q.note.Tones, -7), append(q.note.Gongs, -7)
	left, notes := append(q.tones, -7), append(q.notes, note("6", 5, 5))
	b.Pieces, q.note.Tones, q.note.Gongs, q.tones, q.notes = longer[:3], written[:2], gongs[:1], left[:5], notes[:2]
	b.Pieces[0].Tones = first[:6]
	for number := range 3 {
		q.piece = number
		answers(b, q)
	}
	q.piece = 1
	want := asking(func(q *question) { q.note.Gongs = of(1) })
	if !reflect.DeepEqual(b, example()) || !reflect.DeepEqual(q, want) {
		t.Errorf("%v, %v were %v, %v", b, q, example(), want)
	}
	if !reflect.DeepEqual(longer[3], piece(0, "66")) || first[6] != -7 || written[2] != -7 || gongs[1] != -7 || left[5] != -7 || notes[2].Lost != 5 {
		t.Errorf("behind the arguments: %v, %v, %v, %v, %v, %v", longer, first, written, gongs, left, notes)
	}
}

// P9.8, R4: results share no memory, neither with an argument nor with a later call, and arguments are not retained.
func TestMemory(t *testing.T) {
	b, q := example(), ordinary()
	want, _ := answers(b, q)
	for range 2 {
		p, _ := heard.Pieces(b, q.note)
		l, _ := heard.All(b, q.notes)
		w, _ := heard.Whole(b, q.tones, 2)
		g, _ := heard.Begins(b, 1, q.note)
		s, _ := heard.Strokes(b, 1, q.note, 1)
		for _, list := range [][]int{p, l, w, g, s} {
			if len(list) != 2 {
				t.Fatalf("%v, %v, %v, %v, %v", p, l, w, g, s)
			}
			list = append(list, -9)
			for i := range list {
				list[i] = -9
			}
			clear(list)
		}
		for _, list := range [][]int{p, l, w, g, s} {
			list[0], list[1] = -9, -9
		}
	}
	if !reflect.DeepEqual(b, example()) || !reflect.DeepEqual(q, ordinary()) {
		t.Errorf("%v, %v were changed with results", b, q)
	}
	if again, _ := answers(b, q); !reflect.DeepEqual(again, want) {
		t.Errorf("%v after results were changed, not %v", again, want)
	}
	b.Pieces[0].Tones[1], b.Forms.Forms[1].Strokes[0][0], q.note.Tones[0], q.notes[0].Tones[0], q.tones[0] = 6, 2, 6, 6, 6
	if again, _ := answers(example(), ordinary()); !reflect.DeepEqual(again, want) {
		t.Errorf("%v after arguments were changed, not %v", again, want)
	}
}

// R3: nil and empty are the same.
func TestNilAndEmpty(t *testing.T) {
	empty := func(b api.HeardBook) api.HeardBook {
		b = copied(b)
		if b.Pieces == nil {
			b.Pieces = []api.HeardPiece{}
		}
		for i := range b.Pieces {
			if b.Pieces[i].Tones == nil {
				b.Pieces[i].Tones = []int{}
			}
		}
		return b
	}
	for _, b := range []api.HeardBook{example(), small(), {}, changed(func(b *api.HeardBook) { b.Pieces = nil }), bookOf(piece(0, ""))} {
		for _, digits := range []string{"", "2"} {
			one, e := answers(b, question{note: api.HeardNote{Tones: played(digits)}})
			q := question{note: api.HeardNote{Tones: append([]int{}, played(digits)...), Gongs: []int{}}, notes: []api.HeardNote{}, tones: []int{}}
			other, f := answers(empty(b), q)
			if !reflect.DeepEqual(one, other) || e != f {
				t.Errorf("%v: %v, %v, not %v, %v", b, other, f, one, e)
			}
		}
	}
	if list, e := heard.Whole(small(), []int{}, 1); !slices.Equal(list, of(0)) || e != api.OK {
		t.Errorf("Whole of nothing: %v, %d", list, e)
	}
}

// P2: a call says the same, whatever was called before.
func TestSameAgain(t *testing.T) {
	books := []api.HeardBook{example(), great(), small(), {}}
	for _, b := range books {
		first, e := answers(b, ordinary())
		for _, between := range books {
			answers(between, question{piece: 2, note: note("3333", 6, 6, 3), which: 3, other: 1, lost: 6, notes: []api.HeardNote{note("34", 6, 6)}})
		}
		if again, f := answers(b, ordinary()); !reflect.DeepEqual(first, again) || e != f {
			t.Errorf("%v: %v, and then %v", b, first, again)
		}
	}
}

// P1: all readings of the longest pieces are found in time, how many there may be.
func TestManyReadings(t *testing.T) {
	b := great()
	for many := 1; many <= 24; many++ {
		n := note(strings.Repeat("3", many), 6, 6)
		for number := range b.Pieces {
			q := question{piece: number, note: n, notes: slices.Repeat([]api.HeardNote{n}, 6), which: many / 2, other: number, lost: 6, tones: n.Tones}
			answers(b, q)
		}
	}
	middle, e := heard.Strokes(b, 3, note(strings.Repeat("3", 12), 6, 6), 6)
	var want []int
	for stroke := 6; stroke <= 18; stroke++ {
		want = append(want, stroke)
	}
	if !slices.Equal(middle, want) || e != api.OK {
		t.Errorf("Strokes: %v, %d, not %v", middle, e, want)
	}
}
