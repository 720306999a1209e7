package cycle_test

import (
	"math"
	"math/rand/v2"
	"slices"
	"testing"

	"saron/api"
	"saron/cycle"
)

// The tests of this file hold the package against a plain search that takes each definition of the chapter word by word, with random books that are the same every time, and the properties of the chapter against books of up to 32 beats.

// randomBooks calls the test with many valid books, always the same ones.
func randomBooks(seed uint64, many, beats int, test func(r *rand.Rand, b api.CycleBook)) {
	r := rand.New(rand.NewPCG(seed, 5))
	for range many {
		test(r, randomBook(r, beats))
	}
}

// randomBook makes a book of forms of at most so many beats, some of which are much alike.
func randomBook(r *rand.Rand, beats int) api.CycleBook {
	b := api.CycleBook{Gongs: 1 + r.IntN(5)}
	for range 1 + r.IntN(4) {
		f := randomForm(r, b.Gongs, 2+r.IntN(beats-1))
		if len(b.Forms) > 0 && r.IntN(3) == 0 {
			f = copied(b).Forms[r.IntN(len(b.Forms))]
			gong := r.IntN(b.Gongs)
			if gong > 0 {
				f.Strokes[gong] = randomStrokes(r, f.Beats)
			}
		}
		b.Forms = append(b.Forms, f)
	}
	return b
}

func randomForm(r *rand.Rand, gongs, beats int) api.CycleForm {
	f := form(beats, at(beats-1))
	for range gongs - 1 {
		f.Strokes = append(f.Strokes, randomStrokes(r, beats))
	}
	return f
}

// randomStrokes are often as far apart.
func randomStrokes(r *rand.Rand, beats int) []int {
	var list []int
	apart, first := 1+r.IntN(beats), r.IntN(beats)
	isEven, dense := r.IntN(3) > 0, 1+r.IntN(4)
	for beat := range beats {
		if isEven && beat%apart == first%apart || !isEven && r.IntN(4) < dense {
			list = append(list, beat)
		}
	}
	if r.IntN(8) == 0 {
		return nil
	}
	return list
}

func randomSpot(r *rand.Rand, b api.CycleBook) api.CycleSpot {
	f := r.IntN(len(b.Forms))
	return spot(f, r.IntN(b.Forms[f].Beats))
}

// isStruck takes the definition word by word.
func isStruck(f api.CycleForm, gong, beat int) bool {
	return slices.Contains(f.Strokes[gong], beat%f.Beats)
}

// struckAt returns the gongs that are struck at a beat.
func struckAt(f api.CycleForm, beat int) []int {
	var list []int
	for gong := range f.Strokes {
		if isStruck(f, gong, beat) {
			list = append(list, gong)
		}
	}
	return list
}

func spotsOf(b api.CycleBook) []api.CycleSpot {
	var list []api.CycleSpot
	for i, f := range b.Forms {
		for begin := range f.Beats {
			list = append(list, spot(i, begin))
		}
	}
	return list
}

func passageOf(b api.CycleBook, s api.CycleSpot, many int) [][]int {
	var list [][]int
	for beat := range many {
		list = append(list, struckAt(b.Forms[s.Form], s.Begin+beat))
	}
	return list
}

// lostAt returns the strokes that were lost at a spot, if what was heard can begin there.
func lostAt(b api.CycleBook, s api.CycleSpot, h [][]int) (lost []api.CycleStroke, canBegin bool) {
	for beat, struck := range passageOf(b, s, len(h)) {
		for gong := range b.Gongs {
			is, wasHeard := slices.Contains(struck, gong), slices.Contains(h[beat], gong)
			if wasHeard && !is {
				return nil, false
			}
			if is && !wasHeard {
				lost = append(lost, stroke(beat, gong))
			}
		}
	}
	return lost, true
}

// placesOf returns the spots at which what was heard can begin with so many strokes lost.
func placesOf(b api.CycleBook, h [][]int, most int) []api.CycleSpot {
	var list []api.CycleSpot
	for _, s := range spotsOf(b) {
		if lost, canBegin := lostAt(b, s, h); canBegin && len(lost) <= most {
			list = append(list, s)
		}
	}
	return list
}

// lose takes some strokes at most from a passage.
func lose(r *rand.Rand, passage [][]int, most int) (left [][]int, lost []api.CycleStroke) {
	left = copiedLists(passage)
	for range most {
		beat := r.IntN(len(left))
		if len(left[beat]) == 0 {
			continue
		}
		i := r.IntN(len(left[beat]))
		lost = append(lost, stroke(beat, left[beat][i]))
		left[beat] = slices.Delete(left[beat], i, i+1)
	}
	slices.SortFunc(lost, func(one, other api.CycleStroke) int {
		return (one.Beat-other.Beat)*api.CycleGongs + one.Gong - other.Gong
	})
	return left, lost
}

// randomHeard is mostly what is heard of some spot, sometimes something else.
func randomHeard(r *rand.Rand, b api.CycleBook) [][]int {
	h, _ := lose(r, passageOf(b, randomSpot(r, b), 1+r.IntN(20)), r.IntN(9))
	if r.IntN(4) == 0 {
		beat, gong := r.IntN(len(h)), r.IntN(b.Gongs)
		h[beat] = []int{gong}
	}
	return h
}

// P5.1 to P5.3, P5.9, P5.13: what is struck, the next stroke, and strokes that are as far apart.
func TestAllStrokes(t *testing.T) {
	count := map[api.Errno]int{}
	randomBooks(1, 300, 32, func(r *rand.Rand, b api.CycleBook) {
		if e := cycle.Check(b); e != api.OK {
			t.Fatalf("%v is not valid: %d", b, e)
		}
		for i, f := range b.Forms {
			from := r.IntN(api.CycleMost - 2*f.Beats)
			for beat := from; beat < from+f.Beats; beat++ {
				list, e := cycle.Struck(b, i, beat)
				later, g := cycle.Struck(b, i, beat+f.Beats)
				if !slices.Equal(list, struckAt(f, beat)) || !slices.Equal(list, later) || e != api.OK || g != api.OK {
					t.Fatalf("Struck of %v, %d, %d: %v, %d; a cycle later: %v, %d", b, i, beat, list, e, later, g)
				}
				if slices.Contains(list, 0) != (beat%f.Beats == f.Beats-1) {
					t.Fatalf("Struck of %v, %d, %d: %v, but the great gong ends the cycle", b, i, beat, list)
				}
			}
			for gong := range b.Gongs {
				wantNext(t, b, i, gong, from)
				_, e := cycle.Even(b, i, gong)
				count[e]++
				wantEven(t, b, i, gong)
			}
		}
	})
	if count[api.OK] < 100 || count[api.ErrNone] < 100 {
		t.Errorf("so many gongs are even, or are not: %v", count)
	}
}

// wantNext goes on from beat to beat until the gong is struck, for a cycle at most.
func wantNext(t *testing.T, b api.CycleBook, form, gong, from int) {
	t.Helper()
	f := b.Forms[form]
	want, e := 0, api.ErrNone
	for beat := from + f.Beats - 1; beat >= from; beat-- {
		if isStruck(f, gong, beat) {
			want, e = beat, api.OK
		}
	}
	if n, g := cycle.Next(b, form, gong, from); n != want || g != e {
		t.Fatalf("Next of %v, %d, %d, %d: %d, %d, not %d, %d", b, form, gong, from, n, g, want, e)
	}
}

// wantEven tries all numbers of beats: a gong is struck at every so many beats, and at no other ones.
func wantEven(t *testing.T, b api.CycleBook, form, gong int) {
	t.Helper()
	f := b.Forms[form]
	var beats []int
	for beat := range 3 * f.Beats {
		if isStruck(f, gong, beat) {
			beats = append(beats, beat)
		}
	}
	want, e := 0, api.ErrNone
	for apart := range f.Beats + 1 {
		is := len(beats) > 0
		for i := range len(beats) - 1 {
			is = is && beats[i+1]-beats[i] == apart
		}
		if is {
			want, e = apart, api.OK
		}
	}
	n, g := cycle.Even(b, form, gong)
	if n != want || g != e {
		t.Fatalf("Even of %v, %d, %d: %d, %d, not %d, %d", b, form, gong, n, g, want, e)
	}
	if g == api.OK && (f.Beats%n != 0 || n*len(f.Strokes[gong]) != f.Beats) {
		t.Fatalf("Even of %v, %d, %d: %d does not divide the cycle", b, form, gong, n)
	}
}

// P5.3 to P5.5: passages, and where what was heard can begin, with each number of strokes lost.
func TestAllPlaces(t *testing.T) {
	some, none := 0, 0
	randomBooks(2, 600, 32, func(r *rand.Rand, b api.CycleBook) {
		h := randomHeard(r, b)
		for most := range api.CycleLost + 1 {
			if list, e := cycle.Places(b, h, most); !slices.Equal(list, placesOf(b, h, most)) || e != api.OK {
				t.Fatalf("Places of %v, %v, %d: %v, %d, not %v", b, h, most, list, e, placesOf(b, h, most))
			}
		}
		fewest := math.MaxInt
		for _, s := range spotsOf(b) {
			lost, canBegin := lostAt(b, s, h)
			e := api.ErrNone
			if canBegin {
				fewest, e = min(fewest, len(lost)), api.OK
			}
			if list, g := cycle.Missing(b, s, h); !slices.Equal(list, lost) || g != e {
				t.Fatalf("Missing of %v, %v, %v: %v, %d, not %v, %d", b, s, h, list, g, lost, e)
			}
			if list, e := cycle.Passage(b, s, len(h)); !slices.EqualFunc(list, passageOf(b, s, len(h)), slices.Equal) || e != api.OK {
				t.Fatalf("Passage of %v, %v, %d: %v, %d", b, s, len(h), list, e)
			}
		}
		n, e := cycle.Least(b, h)
		if fewest == math.MaxInt {
			none++
			if n != 0 || e != api.ErrNone {
				t.Fatalf("Least of %v, %v: %d, %d, but there is no spot", b, h, n, e)
			}
			return
		}
		some++
		if n != fewest || e != api.OK {
			t.Fatalf("Least of %v, %v: %d, %d, not %d", b, h, n, e, fewest)
		}
	})
	if some < 100 || none < 50 {
		t.Errorf("%d can begin at some spot, %d at none", some, none)
	}
}

// P5.10: the spot at which a passage truly began is told, and just the strokes that were lost; what is told could be so.
func TestTrueSpots(t *testing.T) {
	randomBooks(3, 600, 32, func(r *rand.Rand, b api.CycleBook) {
		truly := randomSpot(r, b)
		most := r.IntN(api.CycleLost + 1)
		passage, _ := cycle.Passage(b, truly, 1+r.IntN(64))
		h, lost := lose(r, passage, most)
		places, e := cycle.Places(b, h, most)
		if !slices.Contains(places, truly) || e != api.OK {
			t.Fatalf("Places of %v, %v, %d: %v, %d, but it began at %v", b, h, most, places, e, truly)
		}
		if missing, e := cycle.Missing(b, truly, h); !slices.Equal(missing, lost) || e != api.OK {
			t.Fatalf("Missing of %v, %v, %v: %v, %d, not %v", b, truly, h, missing, e, lost)
		}
		for _, s := range spotsOf(b) {
			missing, e := cycle.Missing(b, s, h)
			could := e == api.OK && len(missing) <= most
			if could != slices.Contains(places, s) {
				t.Fatalf("Places of %v, %v, %d: %v, but at %v these are missing: %v, %d", b, h, most, places, s, missing, e)
			}
			if e == api.OK {
				wantWhole(t, b, s, h, missing)
			}
		}
	})
}

// wantWhole checks that what was heard, and what is missing, is the passage.
func wantWhole(t *testing.T, b api.CycleBook, s api.CycleSpot, h [][]int, missing []api.CycleStroke) {
	t.Helper()
	whole := copiedLists(h)
	for _, m := range missing {
		whole[m.Beat] = append(whole[m.Beat], m.Gong)
		slices.Sort(whole[m.Beat])
	}
	if passage, e := cycle.Passage(b, s, len(h)); !slices.EqualFunc(whole, passage, slices.Equal) || e != api.OK {
		t.Fatalf("%v and the missing %v of %v, %v are %v, not %v", h, missing, b, s, whole, passage)
	}
}

// P5.11: more strokes lost take no spot away; a stroke more that is heard adds none that could not be with one more lost; the least number is the first with a spot.
func TestMoreLost(t *testing.T) {
	first := 0
	randomBooks(4, 800, 16, func(r *rand.Rand, b api.CycleBook) {
		h := randomHeard(r, b)
		more := copiedLists(h)
		beat, gong := r.IntN(len(h)), r.IntN(b.Gongs)
		if !slices.Contains(more[beat], gong) {
			more[beat] = append(more[beat], gong)
			slices.Sort(more[beat])
		}
		fewest, e := cycle.Least(b, h)
		var before []api.CycleSpot
		for lost := range api.CycleLost + 1 {
			places, _ := cycle.Places(b, h, lost)
			for _, s := range before {
				if !slices.Contains(places, s) {
					t.Fatalf("Places of %v, %v: %v is no place with %d lost, but with one less", b, h, s, lost)
				}
			}
			if isAny := e == api.OK && fewest <= lost; (len(places) > 0) != isAny {
				t.Fatalf("Places of %v, %v, %d: %v, but the least is %d, %d", b, h, lost, places, fewest, e)
			}
			if lost > 0 {
				heardMore, _ := cycle.Places(b, more, lost-1)
				for _, s := range heardMore {
					if !slices.Contains(places, s) {
						t.Fatalf("Places of %v, %v, %d: no %v, but it is with the gong %d at %d and one less lost", b, h, lost, s, gong, beat)
					}
				}
			}
			if len(before) == 0 && len(places) > 0 && lost > 0 {
				first++
			}
			before = places
		}
	})
	if first < 50 {
		t.Errorf("only %d have their first spot with some strokes lost", first)
	}
}

// canConfuse goes through all that can be heard of two passages, beat by beat, and keeps how many strokes of each were lost.
func canConfuse(b api.CycleBook, one, other api.CycleSpot, most, many int) bool {
	type losses [2]int
	now := map[losses]bool{{}: true}
	for beat := range many {
		next := map[losses]bool{}
		struck := [2][]int{struckAt(b.Forms[one.Form], one.Begin+beat), struckAt(b.Forms[other.Form], other.Begin+beat)}
		for set := range 1 << b.Gongs {
			lost, canBe := losses{}, true
			for gong := range b.Gongs {
				for side, list := range struck {
					is := slices.Contains(list, gong)
					wasHeard := set>>gong&1 == 1
					canBe = canBe && (is || !wasHeard)
					if is && !wasHeard {
						lost[side]++
					}
				}
			}
			for before := range now {
				l := losses{before[0] + lost[0], before[1] + lost[1]}
				if canBe && l[0] <= most && l[1] <= most {
					next[l] = true
				}
			}
		}
		now = next
	}
	return len(now) > 0
}

// firstConfused goes through all pairs.
func firstConfused(b api.CycleBook, most, many int) (one, other api.CycleSpot, e api.Errno) {
	spots := spotsOf(b)
	for i, one := range spots {
		for _, other := range spots[i+1:] {
			if canConfuse(b, one, other, most, many) {
				return one, other, api.OK
			}
		}
	}
	return spot(0, 0), spot(0, 0), api.ErrNone
}

// P5.6: the first two spots that can be confused.
func TestAllConfused(t *testing.T) {
	count := map[api.Errno]int{}
	later := 0
	randomBooks(5, 400, 5, func(r *rand.Rand, b api.CycleBook) {
		if r.IntN(2) == 0 {
			b.Forms = b.Forms[:1]
		}
		lost := r.IntN(4)
		many := 1 + r.IntN(6+2*lost)
		one, other, e := firstConfused(b, lost, many)
		count[e]++
		if one != spot(0, 0) {
			later++
		}
		if x, y, f := cycle.Confused(b, lost, many); x != one || y != other || f != e {
			t.Fatalf("Confused of %v, %d, %d: %v, %v, %d, not %v, %v, %d", b, lost, many, x, y, f, one, other, e)
		}
	})
	if count[api.OK] < 100 || count[api.ErrNone] < 50 || later < 20 {
		t.Errorf("so many books have spots that can be confused, or have not: %v; %d not the first one", count, later)
	}
}

// P5.7: the least number of beats in which no two spots can be confused.
func TestAllSure(t *testing.T) {
	some := 0
	randomBooks(6, 300, 5, func(r *rand.Rand, b api.CycleBook) {
		lost := r.IntN(3)
		want, e := 0, api.ErrNone
		for many := 1; many <= 25 && e != api.OK; many++ {
			if _, _, f := firstConfused(b, lost, many); f == api.ErrNone {
				want, e = many, api.OK
			}
		}
		n, f := cycle.Sure(b, lost)
		if e == api.OK {
			some++
		}
		if e == api.OK && (n != want || f != api.OK) || e != api.OK && f == api.OK && n <= 25 {
			t.Fatalf("Sure of %v, %d: %d, %d, not %d, %d", b, lost, n, f, want, e)
		}
	})
	if some < 100 {
		t.Errorf("only %d books of 300 are sure", some)
	}
}

// P5.12: with as many beats as are told there is just one spot; in one beat less two can be confused; in more beats there never are more.
func TestKnownSpots(t *testing.T) {
	count := map[api.Errno]int{}
	randomBooks(7, 300, 32, func(r *rand.Rand, b api.CycleBook) {
		lost := r.IntN(api.CycleLost + 1)
		many, e := cycle.Sure(b, lost)
		count[e]++
		if e != api.OK {
			one, other, f := cycle.Confused(b, lost, api.CycleHeard)
			if e != api.ErrNone || f != api.OK || !canConfuse(b, one, other, lost, api.CycleHeard) {
				t.Fatalf("Sure of %v, %d: %d, %d, but Confused in all beats: %v, %v, %d", b, lost, many, e, one, other, f)
			}
			return
		}
		for beats := 1; beats <= api.CycleHeard; beats++ {
			one, other, e := cycle.Confused(b, lost, beats)
			if (e == api.OK) != (beats < many) {
				t.Fatalf("Sure of %v, %d: %d, but Confused in %d beats: %v, %v, %d", b, lost, many, beats, one, other, e)
			}
		}
		for range 10 {
			truly, beats := randomSpot(r, b), many+r.IntN(api.CycleHeard-many+1)
			h, _ := lose(r, passageOf(b, truly, beats), lost)
			if places, e := cycle.Places(b, h, lost); !slices.Equal(places, []api.CycleSpot{truly}) || e != api.OK {
				t.Fatalf("Places of %v, %v, %d: %v, %d, but %d beats are enough for %v", b, h, lost, places, e, many, truly)
			}
		}
	})
	if count[api.OK] < 100 || count[api.ErrNone] < 50 {
		t.Errorf("so many books are sure, or are not: %v", count)
	}
}

// P5.6, P5.12: there is something that can be heard of both spots that are told.
func TestHeardOfBoth(t *testing.T) {
	some := 0
	randomBooks(8, 500, 32, func(r *rand.Rand, b api.CycleBook) {
		lost, many := r.IntN(api.CycleLost+1), 1+r.IntN(64)
		one, other, e := cycle.Confused(b, lost, many)
		if e != api.OK {
			return
		}
		some++
		var h [][]int
		second := passageOf(b, other, many)
		for beat, struck := range passageOf(b, one, many) {
			h = append(h, slices.DeleteFunc(struck, func(gong int) bool { return !slices.Contains(second[beat], gong) }))
		}
		places, f := cycle.Places(b, h, lost)
		if f != api.OK || !slices.Contains(places, one) || !slices.Contains(places, other) {
			t.Fatalf("Confused of %v, %d, %d: %v, %v, but what both share can begin at %v, %d", b, lost, many, one, other, places, f)
		}
	})
	if some < 100 {
		t.Errorf("only %d books of 500 have spots that can be confused", some)
	}
}

// P1: no function panics or goes on for ever, whatever the arguments are.
func TestAnything(t *testing.T) {
	r := rand.New(rand.NewPCG(9, 5))
	odd := []int{math.MinInt, -1, 0, 1, 2, 3, 31, 32, 33, 64, 65, math.MaxInt}
	some := func() int { return odd[r.IntN(len(odd))] }
	lists := func() [][]int {
		var l [][]int
		for range r.IntN(5) {
			l = append(l, []int{some(), some()}[:r.IntN(3)])
		}
		return l
	}
	for range 20000 {
		b := randomBook(r, 6)
		switch r.IntN(5) {
		case 0:
			b.Gongs = some()
		case 1:
			b.Forms[r.IntN(len(b.Forms))].Beats = some()
		case 2:
			b.Forms[r.IntN(len(b.Forms))].Strokes = lists()
		case 3:
			f := b.Forms[r.IntN(len(b.Forms))]
			f.Strokes[r.IntN(len(f.Strokes))] = []int{some()}
		}
		q := question{form: some(), gong: some(), beat: some(), many: some(), lost: some(), spot: spot(some(), some()), heard: lists()}
		isWrong := cycle.Check(b) != api.OK
		_, errors := answers(b, q)
		for i, e := range errors {
			if (e == api.ErrCycle) != isWrong {
				t.Fatalf("%v, %v: the error %d is %d", b, q, i, e)
			}
		}
	}
}
