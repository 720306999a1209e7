package heard_test

import (
	"math"
	"math/rand/v2"
	"slices"
	"testing"

	"saron/api"
	"saron/heard"
)

// The tests of this file hold the package against a plain search that takes each definition of the chapter word by word, with random books that are the same every time, and the properties of the chapter against books of pieces of up to 24 strokes.

// randomBooks calls the test with many valid books, always the same ones, of pieces of at most so many strokes.
func randomBooks(seed uint64, many, strokes int, test func(r *rand.Rand, b api.HeardBook)) {
	r := rand.New(rand.NewPCG(seed, 9))
	for range many {
		test(r, randomBook(r, strokes))
	}
}

// randomBook makes a book of pieces some of which are much alike.
func randomBook(r *rand.Rand, strokes int) api.HeardBook {
	b := api.HeardBook{Forms: randomForms(r)}
	tones := 2 + r.IntN(6)
	for range 1 + r.IntN(6) {
		p := api.HeardPiece{Form: r.IntN(len(b.Forms.Forms))}
		for range 1 + r.IntN(strokes) {
			p.Tones = append(p.Tones, r.IntN(tones))
		}
		if len(b.Pieces) > 0 && r.IntN(2) == 0 {
			p.Tones = slices.Clone(b.Pieces[r.IntN(len(b.Pieces))].Tones)
			p.Tones[r.IntN(len(p.Tones))] = r.IntN(tones)
			if len(p.Tones) > 1 && r.IntN(2) == 0 {
				at := r.IntN(len(p.Tones))
				p.Tones = slices.Delete(p.Tones, at, at+1)
			}
		}
		b.Pieces = append(b.Pieces, p)
	}
	return b
}

func randomForms(r *rand.Rand) api.CycleBook {
	c := api.CycleBook{Gongs: 1 + r.IntN(3)}
	for range 1 + r.IntN(3) {
		f := api.CycleForm{Beats: 2 + r.IntN(6), Strokes: make([][]int, c.Gongs)}
		f.Strokes[0] = of(f.Beats - 1)
		for gong := 1; gong < c.Gongs; gong++ {
			f.Strokes[gong] = of(r.IntN(f.Beats))
		}
		c.Forms = append(c.Forms, f)
	}
	return c
}

// isGong takes the definition word by word: the great gong is the gong 0, struck over and over.
func isGong(b api.HeardBook, number, stroke int) bool {
	f := b.Forms.Forms[b.Pieces[number].Form]
	return slices.Contains(f.Strokes[0], stroke%f.Beats)
}

// listen makes a note of a piece as the definition says: it begins somewhere, strokes are lost, notes are wrong, and gongs heard. It tells the strokes, too, that its notes truly are.
func listen(r *rand.Rand, b api.HeardBook, number int) (n api.HeardNote, truly []int) {
	tones := b.Pieces[number].Tones
	first := r.IntN(len(tones))
	last := first + r.IntN(len(tones)-first)
	n.Lost, n.Wrong = r.IntN(api.HeardLost+1), r.IntN(3)
	lost, wrong := n.Lost, n.Wrong
	for stroke := first; stroke <= last; stroke++ {
		if first < stroke && stroke < last && lost > 0 && r.IntN(3) == 0 {
			lost--
			continue
		}
		tone := tones[stroke]
		if wrong > 0 && r.IntN(3) == 0 {
			wrong--
			tone = near(r, tone)
		}
		if isGong(b, number, stroke) && r.IntN(2) == 0 {
			n.Gongs = append(n.Gongs, len(n.Tones))
		}
		n.Tones = append(n.Tones, tone)
		truly = append(truly, stroke)
	}
	return n, truly
}

// near returns a tone that is one more or one less.
func near(r *rand.Rand, tone int) int {
	if tone == 0 || tone < api.HeardTones-1 && r.IntN(2) == 0 {
		return tone + 1
	}
	return tone - 1
}

// randomNote is mostly what was heard of some piece, sometimes something near it, or else anything.
func randomNote(r *rand.Rand, b api.HeardBook) api.HeardNote {
	n, _ := listen(r, b, r.IntN(len(b.Pieces)))
	if r.IntN(2) == 0 {
		n.Tones[r.IntN(len(n.Tones))] = r.IntN(api.HeardTones)
		n.Lost, n.Wrong = r.IntN(4), r.IntN(4)
	}
	if r.IntN(3) == 0 {
		n.Gongs = nil
		for which := range n.Tones {
			if r.IntN(4) == 0 {
				n.Gongs = append(n.Gongs, which)
			}
		}
	}
	return n
}

// lists calls the function with all lists of so many strokes, strictly increasing, of as many as there are.
func lists(strokes, many int, call func(list []int)) {
	for set := range 1 << strokes {
		var list []int
		for stroke := range strokes {
			if set>>stroke&1 == 1 {
				list = append(list, stroke)
			}
		}
		if len(list) == many {
			call(list)
		}
	}
}

// isReading takes the definition word by word, but for what was lost.
func isReading(b api.HeardBook, number int, n api.HeardNote, list []int) bool {
	wrong := 0
	for which, stroke := range list {
		tone, truly := n.Tones[which], b.Pieces[number].Tones[stroke]
		if tone != truly {
			wrong++
		}
		if tone > truly+1 || tone < truly-1 {
			return false
		}
		if slices.Contains(n.Gongs, which) && !isGong(b, number, stroke) {
			return false
		}
	}
	return wrong <= n.Wrong
}

// lostBy returns how many strokes from the first one to the last one are not among these.
func lostBy(list []int) int {
	many := 0
	for stroke := list[0]; stroke <= list[len(list)-1]; stroke++ {
		if !slices.Contains(list, stroke) {
			many++
		}
	}
	return many
}

// readings returns all readings, and the fewest strokes that one of any number of lost strokes loses, or -1.
func readings(b api.HeardBook, number int, n api.HeardNote) (all [][]int, fewest int) {
	fewest = -1
	lists(len(b.Pieces[number].Tones), len(n.Tones), func(list []int) {
		if !isReading(b, number, n, list) {
			return
		}
		lost := lostBy(list)
		if fewest < 0 || lost < fewest {
			fewest = lost
		}
		if lost <= n.Lost {
			all = append(all, list)
		}
	})
	return all, fewest
}

// strokesOf returns all strokes, increasing, that a note is in some of these readings.
func strokesOf(all [][]int, which int) []int {
	var list []int
	for _, reading := range all {
		list = append(list, reading[which])
	}
	slices.Sort(list)
	return slices.Compact(list)
}

// P9.1 to P9.4: what fits, where it begins, which strokes its notes are, and the fewest that can be lost, by all readings that there are.
func TestAllReadings(t *testing.T) {
	some, none, more := 0, 0, 0
	randomBooks(1, 1500, 10, func(r *rand.Rand, b api.HeardBook) {
		if e := heard.Check(b); e != api.OK {
			t.Fatalf("%v is not valid: %d", b, e)
		}
		n := randomNote(r, b)
		var fit []int
		for number := range b.Pieces {
			all, fewest := readings(b, number, n)
			if len(all) > 0 {
				fit = append(fit, number)
				some++
			} else {
				none++
			}
			if is, e := heard.Fits(b, number, n); is != (len(all) > 0) || e != api.OK {
				t.Fatalf("Fits of %v, %d, %v: %v, %d, but the readings are %v", b, number, n, is, e, all)
			}
			if list, e := heard.Begins(b, number, n); !slices.Equal(list, strokesOf(all, 0)) || e != api.OK {
				t.Fatalf("Begins of %v, %d, %v: %v, %d, not %v", b, number, n, list, e, strokesOf(all, 0))
			}
			for which := range n.Tones {
				if list, e := heard.Strokes(b, number, n, which); !slices.Equal(list, strokesOf(all, which)) || e != api.OK {
					t.Fatalf("Strokes of %v, %d, %v, %d: %v, %d, not %v", b, number, n, which, list, e, strokesOf(all, which))
				}
			}
			if fewest > n.Lost {
				more++
			}
			wantLeast(t, b, number, n, fewest)
		}
		if list, e := heard.Pieces(b, n); !slices.Equal(list, fit) || e != api.OK {
			t.Fatalf("Pieces of %v, %v: %v, %d, not %v", b, n, list, e, fit)
		}
	})
	if some < 1000 || none < 1000 || more < 50 {
		t.Errorf("%d fit, %d do not, %d would with more lost strokes", some, none, more)
	}
}

// wantLeast checks the fewest lost strokes; below 0 there is no reading.
func wantLeast(t *testing.T, b api.HeardBook, number int, n api.HeardNote, fewest int) {
	t.Helper()
	want, e := fewest, api.OK
	if fewest < 0 {
		want, e = 0, api.ErrNone
	}
	if lost, f := heard.Least(b, number, n); lost != want || f != e {
		t.Fatalf("Least of %v, %d, %v: %d, %d, not %d, %d", b, number, n, lost, f, want, e)
	}
}

// P9.9: the piece that was truly played is told, with the strokes that its notes truly are, whatever was lost or wrong.
func TestTruePiece(t *testing.T) {
	one := 0
	randomBooks(2, 2000, 24, func(r *rand.Rand, b api.HeardBook) {
		truly := r.IntN(len(b.Pieces))
		n, strokes := listen(r, b, truly)
		list, e := heard.Pieces(b, n)
		if !slices.Contains(list, truly) || e != api.OK {
			t.Fatalf("Pieces of %v, %v: %v, %d, but %d was played", b, n, list, e, truly)
		}
		if len(list) == 1 && len(b.Pieces) > 1 {
			one++
		}
		if is, e := heard.Fits(b, truly, n); !is || e != api.OK {
			t.Fatalf("Fits of %v, %d, %v: %v, %d", b, truly, n, is, e)
		}
		if begins, e := heard.Begins(b, truly, n); !slices.Contains(begins, strokes[0]) || e != api.OK {
			t.Fatalf("Begins of %v, %d, %v: %v, %d, but it began at %d", b, truly, n, begins, e, strokes[0])
		}
		for which, stroke := range strokes {
			if can, e := heard.Strokes(b, truly, n, which); !slices.Contains(can, stroke) || e != api.OK {
				t.Fatalf("Strokes of %v, %d, %v, %d: %v, %d, but it is %d", b, truly, n, which, can, e, stroke)
			}
		}
		if lost, e := heard.Least(b, truly, n); lost > lostBy(strokes) || e != api.OK {
			t.Fatalf("Least of %v, %d, %v: %d, %d, but %v were struck", b, truly, n, lost, e, strokes)
		}
	})
	if one < 300 {
		t.Errorf("only %d pieces of 2000 are known", one)
	}
}

// P9.1 to P9.3: what is told of pieces of all lengths agrees: what fits has strokes for each note, and what begins it is the first note.
func TestAgreeing(t *testing.T) {
	randomBooks(3, 1500, 24, func(r *rand.Rand, b api.HeardBook) {
		n := randomNote(r, b)
		list, _ := heard.Pieces(b, n)
		for number := range b.Pieces {
			is, _ := heard.Fits(b, number, n)
			begins, _ := heard.Begins(b, number, n)
			if is != slices.Contains(list, number) || is != (len(begins) > 0) {
				t.Fatalf("%v, %d, %v: Fits %v, Pieces %v, Begins %v", b, number, n, is, list, begins)
			}
			before := -1
			for which := range n.Tones {
				strokes, e := heard.Strokes(b, number, n, which)
				if is != (len(strokes) > 0) || which == 0 && !slices.Equal(strokes, begins) || e != api.OK {
					t.Fatalf("Strokes of %v, %d, %v, %d: %v, %d, but Fits %v, Begins %v", b, number, n, which, strokes, e, is, begins)
				}
				if is && strokes[0] <= before {
					t.Fatalf("Strokes of %v, %d, %v, %d: %v, but the first one of the note before is %d", b, number, n, which, strokes, before)
				}
				if is {
					before = strokes[0]
				}
			}
		}
	})
}

// easier returns the note with more strokes lost, more notes that can be wrong, a gong less, and a note less at its end.
func easier(r *rand.Rand, n api.HeardNote) []api.HeardNote {
	var list []api.HeardNote
	if n.Lost < api.HeardLost {
		more := n
		more.Lost = n.Lost + 1 + r.IntN(api.HeardLost-n.Lost)
		list = append(list, more)
	}
	if n.Wrong < api.HeardLost {
		more := n
		more.Wrong = n.Wrong + 1 + r.IntN(api.HeardLost-n.Wrong)
		list = append(list, more)
	}
	if len(n.Gongs) > 0 {
		less := n
		at := r.IntN(len(n.Gongs))
		less.Gongs = slices.Delete(slices.Clone(n.Gongs), at, at+1)
		list = append(list, less)
	}
	if last := len(n.Tones) - 1; last > 0 {
		less := n
		less.Tones = n.Tones[:last]
		less.Gongs = slices.DeleteFunc(slices.Clone(n.Gongs), func(gong int) bool { return gong == last })
		list = append(list, less)
	}
	return list
}

// P9.10: what is easier takes no piece away.
func TestEasier(t *testing.T) {
	added := 0
	randomBooks(4, 2500, 24, func(r *rand.Rand, b api.HeardBook) {
		n := randomNote(r, b)
		before, _ := heard.Pieces(b, n)
		for _, other := range easier(r, n) {
			list, e := heard.Pieces(b, other)
			for _, number := range before {
				if !slices.Contains(list, number) || e != api.OK {
					t.Fatalf("Pieces of %v, %v: %v, %d, but of %v: %v", b, other, list, e, n, before)
				}
			}
			added += len(list) - len(before)
		}
	})
	if added < 200 {
		t.Errorf("only %d pieces are added", added)
	}
}

// P9.4, P9.10: the least number of lost strokes is the first with which the note fits, and does not depend on its own.
func TestFirstLost(t *testing.T) {
	var first [api.HeardLost + 1]int
	beyond := 0
	randomBooks(5, 1500, 24, func(r *rand.Rand, b api.HeardBook) {
		n := randomNote(r, b)
		number := r.IntN(len(b.Pieces))
		least, e := heard.Least(b, number, n)
		if e == api.OK && least > api.HeardLost {
			beyond++
		}
		if e == api.OK && least <= api.HeardLost {
			first[least]++
		}
		for lost := range api.HeardLost + 1 {
			n.Lost = lost
			if again, f := heard.Least(b, number, n); again != least || f != e {
				t.Fatalf("Least of %v, %d, %v: %d, %d, not %d, %d", b, number, n, again, f, least, e)
			}
			if is, _ := heard.Fits(b, number, n); is != (e == api.OK && least <= lost) {
				t.Fatalf("Fits of %v, %d, %v: %v, but the least is %d, %d", b, number, n, is, least, e)
			}
		}
	})
	if slices.Min(first[:]) < 5 || beyond < 5 {
		t.Errorf("so many fit with each number of lost strokes: %v; with more: %d", first, beyond)
	}
}

// P9.2, P9.11: what all listeners together can have heard is what each of them can, in any order.
func TestTogether(t *testing.T) {
	some, less := 0, 0
	randomBooks(6, 2000, 24, func(r *rand.Rand, b api.HeardBook) {
		truly := r.IntN(len(b.Pieces))
		var notes []api.HeardNote
		for range 1 + r.IntN(api.HeardNotes) {
			n, _ := listen(r, b, truly)
			if r.IntN(6) == 0 {
				n = randomNote(r, b)
			}
			notes = append(notes, n)
		}
		var want []int
		fewest := math.MaxInt
		for number := range b.Pieces {
			fitAll := true
			for _, n := range notes {
				is, _ := heard.Fits(b, number, n)
				fitAll = fitAll && is
			}
			if fitAll {
				want = append(want, number)
			}
		}
		for range 2 {
			if list, e := heard.All(b, notes); !slices.Equal(list, want) || e != api.OK {
				t.Fatalf("All of %v, %v: %v, %d, not %v", b, notes, list, e, want)
			}
			r.Shuffle(len(notes), func(i, j int) { notes[i], notes[j] = notes[j], notes[i] })
		}
		for _, n := range notes {
			list, _ := heard.Pieces(b, n)
			fewest = min(fewest, len(list))
		}
		if len(want) > 0 {
			some++
		}
		if len(want) < fewest {
			less++
		}
	})
	if some < 500 || less < 20 {
		t.Errorf("%d of 2000 have pieces, %d have less than each listener", some, less)
	}
}

// without returns all lists of tones that are left of a piece without at most so many of its strokes, as texts.
func without(tones []int, most int) map[string]bool {
	left := map[string]bool{}
	for set := range 1 << len(tones) {
		var text []byte
		for stroke, tone := range tones {
			if set>>stroke&1 == 1 {
				text = append(text, byte('0'+tone))
			}
		}
		if len(tones)-len(text) <= most {
			left[string(text)] = true
		}
	}
	return left
}

// share reports whether there are tones that are left of both pieces without at most so many of their strokes, and how many such tones there are at most.
func share(one, other []int, most int) (isAny bool, longest int) {
	both := without(one, most)
	for text := range without(other, most) {
		if both[text] {
			isAny, longest = true, max(longest, len(text))
		}
	}
	return isAny, longest
}

// P9.5, P9.13: how much pieces share, by all lists of tones that are left of them.
func TestAllCommon(t *testing.T) {
	randomBooks(7, 100, 10, func(r *rand.Rand, b api.HeardBook) {
		for one, x := range b.Pieces {
			for other, y := range b.Pieces {
				_, want := share(x.Tones, y.Tones, api.HeardStrokes)
				if n, e := heard.Common(b, one, other); n != want || e != api.OK {
					t.Fatalf("Common of %v, %d, %d: %d, %d, not %d", b, one, other, n, e, want)
				}
			}
		}
	})
}

// P9.13: two pieces share as much as one shares with the other, all with themselves, and no more than either has.
func TestShares(t *testing.T) {
	randomBooks(8, 1000, 24, func(r *rand.Rand, b api.HeardBook) {
		for one, x := range b.Pieces {
			if n, e := heard.Common(b, one, one); n != len(x.Tones) || e != api.OK {
				t.Fatalf("Common of %v, %d with itself: %d, %d", b, one, n, e)
			}
			for other, y := range b.Pieces[:one] {
				n, e := heard.Common(b, one, other)
				again, f := heard.Common(b, other, one)
				if n != again || n > min(len(x.Tones), len(y.Tones)) || e != api.OK || f != api.OK {
					t.Fatalf("Common of %v, %d, %d: %d, %d; of the other: %d, %d", b, one, other, n, e, again, f)
				}
			}
		}
	})
}

// lose takes just so many strokes from tones.
func lose(r *rand.Rand, tones []int, many int) []int {
	tones = slices.Clone(tones)
	for range many {
		at := r.IntN(len(tones))
		tones = slices.Delete(tones, at, at+1)
	}
	return tones
}

func textOf(tones []int) string {
	var text []byte
	for _, tone := range tones {
		text = append(text, byte('0'+tone))
	}
	return string(text)
}

// P9.6: the pieces of which tones are left, by all lists of tones that are left of them.
func TestAllWhole(t *testing.T) {
	some := 0
	randomBooks(9, 300, 9, func(r *rand.Rand, b api.HeardBook) {
		tones := b.Pieces[r.IntN(len(b.Pieces))].Tones
		tones = lose(r, tones, r.IntN(len(tones)+1))
		if len(tones) > 0 && r.IntN(3) == 0 {
			tones[r.IntN(len(tones))] = r.IntN(api.HeardTones)
		}
		for lost := range api.HeardLost + 1 {
			var want []int
			for number, p := range b.Pieces {
				if without(p.Tones, lost)[textOf(tones)] {
					want = append(want, number)
				}
			}
			if list, e := heard.Whole(b, tones, lost); !slices.Equal(list, want) || e != api.OK {
				t.Fatalf("Whole of %v, %v, %d: %v, %d, not %v", b, tones, lost, list, e, want)
			}
			some += len(want)
		}
	})
	if some < 1000 {
		t.Errorf("only %d pieces are left", some)
	}
}

// P9.7: how many strokes can be lost so that the piece is known, by all lists of tones that are left of all pieces.
func TestAllKnown(t *testing.T) {
	count := map[api.Errno]int{}
	var told [12]int
	randomBooks(10, 300, 8, func(r *rand.Rand, b api.HeardBook) {
		n, e := heard.Known(b)
		count[e]++
		told[n]++
		if len(b.Pieces) == 1 {
			if n != len(b.Pieces[0].Tones) || e != api.OK {
				t.Fatalf("Known of %v: %d, %d", b, n, e)
			}
			return
		}
		if e != api.OK {
			n = -1
		}
		for lost := range 9 {
			isAny := false
			for one, x := range b.Pieces {
				for _, y := range b.Pieces[:one] {
					both, _ := share(x.Tones, y.Tones, lost)
					isAny = isAny || both
				}
			}
			if isAny != (lost > n) {
				t.Fatalf("Known of %v: %d, %d, but with %d lost there are such tones: %v", b, n, e, lost, isAny)
			}
		}
	})
	if count[api.OK] < 100 || count[api.ErrNone] < 20 || told[0] < 20 || told[1] < 20 || told[2] < 5 {
		t.Errorf("so many are known, or are not: %v; %v", count, told)
	}
}

// P9.12: whoever heard a whole piece but for no more strokes than are told knows it; with one stroke more there are tones that could be two pieces.
func TestKnownPiece(t *testing.T) {
	sure, unsure := 0, 0
	randomBooks(11, 2000, 24, func(r *rand.Rand, b api.HeardBook) {
		n, e := heard.Known(b)
		if e != api.OK {
			return
		}
		truly := r.IntN(len(b.Pieces))
		tones := b.Pieces[truly].Tones
		for lost := range min(n, len(tones), api.HeardLost) + 1 {
			left := lose(r, tones, lost)
			if list, e := heard.Whole(b, left, lost); !slices.Equal(list, of(truly)) || e != api.OK {
				t.Fatalf("Whole of %v, %v, %d: %v, %d, but %d strokes can be lost of %d", b, left, lost, list, e, n, truly)
			}
			sure++
		}
		if len(b.Pieces) > 1 && n < api.HeardLost {
			wantUnsure(t, b, n+1)
			unsure++
		}
	})
	if sure < 1000 || unsure < 300 {
		t.Errorf("%d are known, %d not with one stroke more", sure, unsure)
	}
}

// wantUnsure checks that there are tones that could be two pieces, each without at most so many of its strokes.
func wantUnsure(t *testing.T, b api.HeardBook, lost int) {
	t.Helper()
	for one, x := range b.Pieces {
		for _, y := range b.Pieces[:one] {
			list, e := heard.Whole(b, longestOf(x.Tones, y.Tones), lost)
			if e == api.OK && len(list) > 1 {
				return
			}
		}
	}
	t.Fatalf("no tones could be two pieces of %v without %d strokes", b, lost)
}

// longestOf returns the longest tones that are left of both lists.
func longestOf(one, other []int) []int {
	type place struct{ one, other int }
	known := map[place][]int{}
	var from func(i, j int) []int
	from = func(i, j int) []int {
		if i == len(one) || j == len(other) {
			return nil
		}
		if list, isKnown := known[place{i, j}]; isKnown {
			return list
		}
		list := from(i+1, j)
		if skip := from(i, j+1); len(skip) > len(list) {
			list = skip
		}
		if rest := from(i+1, j+1); one[i] == other[j] && len(rest) >= len(list) {
			list = append(of(one[i]), rest...)
		}
		known[place{i, j}] = list
		return list
	}
	return from(0, 0)
}

// anyNumber returns a number that mostly is small, but can be any.
func anyNumber(r *rand.Rand) int {
	switch r.IntN(12) {
	case 0:
		return math.MinInt
	case 1:
		return math.MaxInt
	case 2:
		return r.Int() - r.Int()
	}
	return r.IntN(10) - 1
}

func anyList(r *rand.Rand) []int {
	var list []int
	for range r.IntN(5) {
		list = append(list, anyNumber(r))
	}
	return list
}

func anyNote(r *rand.Rand, b api.HeardBook) api.HeardNote {
	n := randomNote(r, b)
	change := []func(){
		func() { n.Tones = anyList(r) }, func() { n.Gongs = anyList(r) }, func() { n.Lost = anyNumber(r) },
		func() { n.Wrong = anyNumber(r) }, func() {}, func() {},
	}
	change[r.IntN(len(change))]()
	return n
}

// P1: no function panics or goes on for ever, whatever the arguments are.
func TestAnything(t *testing.T) {
	var right [functions]int
	randomBooks(12, 5000, 24, func(r *rand.Rand, b api.HeardBook) {
		q := question{piece: anyNumber(r), which: anyNumber(r), one: anyNumber(r), other: anyNumber(r), lost: anyNumber(r), note: anyNote(r, b), tones: anyList(r)}
		for range r.IntN(9) {
			q.notes = append(q.notes, anyNote(r, b))
		}
		number := r.IntN(len(b.Pieces))
		change := []func(){
			func() { b.Pieces[number].Form = anyNumber(r) }, func() { b.Pieces[number].Tones = anyList(r) },
			func() { b.Pieces = b.Pieces[:r.IntN(len(b.Pieces))] }, func() { b.Forms.Gongs = anyNumber(r) },
			func() { b.Forms.Forms = b.Forms.Forms[:r.IntN(len(b.Forms.Forms))] },
			func() { b.Forms.Forms[0].Strokes[0] = anyList(r) }, func() { b.Forms.Forms[0].Beats = anyNumber(r) },
			func() {}, func() {}, func() {}, func() {}, func() {}, func() {},
		}
		change[r.IntN(len(change))]()
		_, errors := answers(b, q)
		isWrong := heard.Check(b) != api.OK
		for i, e := range errors {
			if (e == api.ErrHeard) != isWrong {
				t.Fatalf("the error %d of %v is %d", i, b, e)
			}
			if e != api.OK && e != api.ErrHeard && e != api.ErrHeardAsk && e != api.ErrNone {
				t.Fatalf("the error %d of %v, %v is %d", i, b, q, e)
			}
			if e == api.OK {
				right[i]++
			}
		}
	})
	if slices.Min(right[:]) < 50 {
		t.Errorf("only so many questions are right, of each function: %v", right)
	}
}
