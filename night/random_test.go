package night_test

import (
	"math"
	"math/rand/v2"
	"slices"
	"testing"

	"saron/api"
	"saron/night"
)

// The tests of this file hold the package against a plain search that takes each definition of the chapter word by word, with random books of few scenes that are the same every time, and the properties of the chapter against books of all sizes.

// randomBooks calls the test with many valid books, always the same ones, of up to so many scenes, whose spans have up to so many numbers.
func randomBooks(seed uint64, many, scenes, numbers int, test func(r *rand.Rand, b api.NightBook)) {
	r := rand.New(rand.NewPCG(seed, 10))
	for range many {
		test(r, randomBook(r, 1+r.IntN(scenes), numbers))
	}
}

// randomBook makes a book whose parts mostly end so that some of its scenes fit, but not all.
func randomBook(r *rand.Rand, scenes, numbers int) api.NightBook {
	b := api.NightBook{Begin: r.IntN(100), Cart: 1, Shares: of(1)}
	weights, longest := 1+[]int{0, 2, 5, 100}[r.IntN(4)], []int{6, 40, 120}[r.IntN(3)]
	part := 0
	for range scenes {
		for part < 2 && r.IntN(scenes) < 2 {
			part++
		}
		low := r.IntN(longest)
		s := scene(part, low, min(low+r.IntN(numbers), 600), r.IntN(weights))
		s.Must = r.IntN(4) == 0
		b.Scenes = append(b.Scenes, s)
	}
	now := b.Begin
	for part := range 3 {
		opens := max(0, now+r.IntN(2*longest)-longest)
		now = max(now, opens)
		most := 0
		for _, s := range b.Scenes {
			if s.Part == part {
				most += s.Long.High
			}
		}
		now = min(2000, now+most*(2+r.IntN(8))/8+r.IntN(2))
		b.Opens, b.Ends = append(b.Opens, min(2000, opens)), append(b.Ends, now)
		if r.IntN(3) == 0 {
			b.Ends[part] = min(2000, now+r.IntN(2*longest))
		}
	}
	return b
}

// moneyed returns a random book for the carts and the pay.
func moneyed(r *rand.Rand) api.NightBook {
	b := example()
	b.Cart, b.Loads, b.Shares = 1+r.IntN(60), nil, nil
	for range r.IntN(9) {
		b.Loads = append(b.Loads, 1+r.IntN(b.Cart))
	}
	if r.IntN(10) == 0 && len(b.Loads) > 0 {
		b.Loads[r.IntN(len(b.Loads))] = b.Cart + 1
	}
	shares := []int{1, 4, 100}[r.IntN(3)]
	for range 1 + r.IntN(12) {
		b.Shares = append(b.Shares, 1+r.IntN(shares))
	}
	b.Fee, b.Cost, b.Feast = r.IntN(1000), r.IntN(60), r.IntN(40)
	if r.IntN(4) == 0 {
		b.Fee = 100000 - r.IntN(100)
	}
	return b
}

// allChoices returns all lists of scenes that can be left out, in their order: each one behind those that it begins with.
func allChoices(b api.NightBook) [][]int {
	all := [][]int{nil}
	for number := range b.Scenes {
		// Those with the last scenes come first in the end, so that scenes are put in front.
		last := len(b.Scenes) - 1 - number
		if b.Scenes[last].Must {
			continue
		}
		for _, l := range slices.Clone(all) {
			all = append(all, append(of(last), l...))
		}
	}
	slices.SortFunc(all, slices.Compare[[]int])
	return all
}

// truths returns all lists of minutes that the scenes can truly take, of which the first ones are done.
func truths(b api.NightBook, done []int) [][]int {
	all := [][]int{nil}
	for number, s := range b.Scenes {
		can := s.Long
		if number < len(done) {
			can = span(max(0, done[number]), max(0, done[number]))
		}
		var longer [][]int
		for _, l := range all {
			for n := can.Low; n <= can.High; n++ {
				longer = append(longer, append(slices.Clone(l), n))
			}
		}
		all = longer
	}
	return all
}

// worst returns how long all scenes take at the worst, of which the first ones are done.
func worst(b api.NightBook, done []int) []int {
	var l []int
	for number, s := range b.Scenes {
		if number < len(done) {
			l = append(l, max(0, done[number]))
		} else {
			l = append(l, s.Long.High)
		}
	}
	return l
}

// endOf returns when a part ends in a truth: as soon as all is played since the beginning, and since each opening.
func endOf(b api.NightBook, choice, long []int, part int) int {
	played := func(first int) int {
		minutes := 0
		for number, s := range b.Scenes {
			if first <= s.Part && s.Part <= part && !slices.Contains(choice, number) {
				minutes += long[number]
			}
		}
		return minutes
	}
	end := b.Begin + played(0)
	for p := range part + 1 {
		end = max(end, b.Opens[p]+played(p))
	}
	return end
}

// isInTime tells whether all parts end in time in a truth.
func isInTime(b api.NightBook, choice, long []int) bool {
	for part, end := range b.Ends {
		if endOf(b, choice, long, part) > end {
			return false
		}
	}
	return true
}

func weightOf(b api.NightBook, choice []int) int {
	weight := 0
	for _, number := range choice {
		weight += b.Scenes[number].Weight
	}
	return weight
}

// goesOn tells whether a choice leaves out just those of the first scenes that were left out.
func goesOn(choice, done []int) bool {
	for number, n := range done {
		if (n == left) != slices.Contains(choice, number) {
			return false
		}
	}
	return true
}

// bestOf returns the first one of the choices that go on and are in time in all these truths, by the least weight, and then the fewest scenes.
func bestOf(b api.NightBook, done []int, truths ...[]int) (best []int, isAny bool) {
	for _, choice := range allChoices(b) {
		if !goesOn(choice, done) || slices.ContainsFunc(truths, func(long []int) bool { return !isInTime(b, choice, long) }) {
			continue
		}
		more := weightOf(b, choice) - weightOf(b, best)
		if !isAny || more < 0 || more == 0 && len(choice) < len(best) {
			best, isAny = choice, true
		}
	}
	return best, isAny
}

// errorOf returns ErrNone where there is nothing.
func errorOf(isAny bool) api.Errno {
	if !isAny {
		return api.ErrNone
	}
	return api.OK
}

// randomTruth returns how long all scenes truly take.
func randomTruth(r *rand.Rand, b api.NightBook) []int {
	var l []int
	way := r.IntN(4)
	for _, s := range b.Scenes {
		switch way {
		case 0:
			l = append(l, s.Long.Low)
		case 1:
			l = append(l, s.Long.High)
		default:
			l = append(l, s.Long.Low+r.IntN(s.Long.High-s.Long.Low+1))
		}
	}
	return l
}

// randomDone returns what can have been done of some of the first scenes.
func randomDone(r *rand.Rand, b api.NightBook) []int {
	l := randomTruth(r, b)[:r.IntN(len(b.Scenes)+1)]
	for number := range l {
		if !b.Scenes[number].Must && r.IntN(3) == 0 {
			l[number] = left
		}
	}
	return l
}

// P10.1: between what lies when parts end, and what fits, in all truths.
func TestAllEnds(t *testing.T) {
	fit, not := 0, 0
	randomBooks(1, 1000, 5, 4, func(r *rand.Rand, b api.NightBook) {
		all, choices := truths(b, nil), allChoices(b)
		choice := choices[r.IntN(len(choices))]
		want := make([]api.Span, 3)
		for part := range want {
			want[part] = span(math.MaxInt, 0)
			for _, long := range all {
				end := endOf(b, choice, long, part)
				want[part] = span(min(want[part].Low, end), max(want[part].High, end))
			}
		}
		if l, e := night.Ends(b, choice); !slices.Equal(l, want) || e != api.OK {
			t.Fatalf("Ends of %v, %v: %v, %d, not %v", b, choice, l, e, want)
		}
		fits := !slices.ContainsFunc(all, func(long []int) bool { return !isInTime(b, choice, long) })
		if is, e := night.Fits(b, choice); is != fits || e != api.OK {
			t.Fatalf("Fits of %v, %v: %v, %d", b, choice, is, e)
		}
		if fits {
			fit++
		} else {
			not++
		}
	})
	if fit < 100 || not < 100 {
		t.Errorf("%d choices fit, %d do not", fit, not)
	}
}

// P10.1: what is a choice, of all lists of few numbers.
func TestAllLists(t *testing.T) {
	randomBooks(2, 100, 4, 4, func(r *rand.Rand, b api.NightBook) {
		choices := allChoices(b)
		lists := [][]int{nil}
		for i := 0; len(lists[i]) < 3; i++ {
			for n := -1; n <= len(b.Scenes); n++ {
				lists = append(lists, append(slices.Clone(lists[i]), n))
			}
		}
		for _, l := range lists {
			want := api.ErrNightAsk
			if slices.ContainsFunc(choices, func(choice []int) bool { return slices.Equal(choice, l) }) {
				want = api.OK
			}
			_, e := night.Ends(b, l)
			if _, f := night.Fits(b, l); e != want || f != want {
				t.Fatalf("Ends and Fits of %v, %v: %d, %d, not %d", b, l, e, f, want)
			}
		}
	})
}

// P10.2, P10.3: the best choice, and the best one that goes on, in all truths.
func TestAllChoices(t *testing.T) {
	count := map[string]int{}
	randomBooks(3, 1500, 5, 3, func(r *rand.Rand, b api.NightBook) {
		best, isAny := bestOf(b, nil, truths(b, nil)...)
		if l, e := night.Leave(b); !slices.Equal(l, best) || e != errorOf(isAny) {
			t.Fatalf("Leave of %v: %v, %d, not %v, %v", b, l, e, best, isAny)
		}
		if isAny {
			count["fits"]++
		}
		if len(best) > 1 {
			count["several are left"]++
		}
		done := randomDone(r, b)
		goes, isAny := bestOf(b, done, truths(b, done)...)
		want := slices.DeleteFunc(slices.Clone(goes), func(number int) bool { return number < len(done) })
		if l, e := night.Cue(b, done); !slices.Equal(l, want) || e != errorOf(isAny) {
			t.Fatalf("Cue of %v, %v: %v, %d, not %v, %v", b, done, l, e, want, isAny)
		}
		if isAny && !slices.Equal(best, goes) {
			count["changes"]++
		}
		if len(want) > 0 && len(done) > 0 {
			count["goes on"]++
		}
		if !isAny {
			count["does not go on"]++
		}
	})
	if count["fits"] < 300 || count["several are left"] < 100 || count["changes"] < 100 || count["goes on"] < 50 || count["does not go on"] < 100 {
		t.Errorf("how often each can be: %v", count)
	}
}

// P10.3: what can have been done, of lists of numbers around those that can be.
func TestAllDone(t *testing.T) {
	wrong := 0
	randomBooks(4, 1500, 5, 4, func(r *rand.Rand, b api.NightBook) {
		var done []int
		can := true
		for range r.IntN(len(b.Scenes) + 2) {
			n := left
			if number := len(done); number < len(b.Scenes) {
				s := b.Scenes[number]
				if r.IntN(3) > 0 {
					n = max(left, s.Long.Low-1+r.IntN(s.Long.High-s.Long.Low+3))
				}
				can = can && (n >= s.Long.Low && n <= s.Long.High || n == left && !s.Must)
			} else {
				can = false
			}
			done = append(done, n)
		}
		if _, e := night.Cue(b, done); (e == api.ErrNightAsk) == can {
			t.Fatalf("Cue of %v, %v: %d", b, done, e)
		}
		long := randomTruth(r, b)
		number := r.IntN(len(long))
		long[number] = b.Scenes[number].Long.Low - 2 + r.IntN(b.Scenes[number].Long.High-b.Scenes[number].Long.Low+5)
		isLong := long[number] >= b.Scenes[number].Long.Low && long[number] <= b.Scenes[number].Long.High
		if _, e := night.Play(b, long); (e == api.ErrNightAsk) == isLong {
			t.Fatalf("Play of %v, %v: %d", b, long, e)
		}
		if !can {
			wrong++
		}
	})
	if wrong < 100 {
		t.Errorf("%d lists cannot be", wrong)
	}
}

// P10.4: what is left out in the end, if each cue is asked.
func TestAllPlays(t *testing.T) {
	fit, less := 0, 0
	randomBooks(5, 2000, 7, 60, func(r *rand.Rand, b api.NightBook) {
		long := randomTruth(r, b)
		var done, all []int
		first, isAny := bestOf(b, nil, worst(b, nil))
		for number, n := range long {
			best, isAny := bestOf(b, done, worst(b, done))
			if !isAny {
				break
			}
			if slices.Contains(best, number) {
				all = append(all, number)
				n = left
			}
			done = append(done, n)
		}
		if l, e := night.Play(b, long); !slices.Equal(l, all) || e != errorOf(isAny) {
			t.Fatalf("Play of %v, %v: %v, %d, not %v, %v", b, long, l, e, all, isAny)
		}
		if isAny {
			fit++
		}
		if !slices.Equal(first, all) {
			less++
		}
	})
	if fit < 300 || less < 100 {
		t.Errorf("%d plays fit, in %d ones the cues change what is left", fit, less)
	}
}

// P10.5: by how much later a play could begin, minute by minute.
func TestAllSpares(t *testing.T) {
	count := map[string]int{}
	randomBooks(6, 1000, 6, 60, func(r *rand.Rand, b api.NightBook) {
		if r.IntN(10) == 0 {
			b.Ends = of(2000, 2000, 2000)
		}
		best, isAny := bestOf(b, nil, worst(b, nil))
		choices := slices.DeleteFunc(allChoices(b), func(choice []int) bool { return weightOf(b, choice) > weightOf(b, best) })
		want := 0
		for later := b; isAny && want < 1000; want++ {
			later.Begin++
			if !slices.ContainsFunc(choices, func(choice []int) bool { return isInTime(later, choice, worst(b, nil)) }) {
				break
			}
		}
		if n, e := night.Spare(b); n != want || e != errorOf(isAny) {
			t.Fatalf("Spare of %v: %d, %d, not %d, %v", b, n, e, want, isAny)
		}
		switch {
		case !isAny:
			count["none"]++
		case want == 0:
			count["0"]++
		case want == 1000:
			count["1000"]++
		default:
			count["more"]++
		}
		if b.Begin += want; isAny && !isInTime(b, best, worst(b, nil)) {
			count["another choice"]++
		}
	})
	if count["none"] < 50 || count["0"] < 10 || count["1000"] < 10 || count["more"] < 100 || count["another choice"] < 5 {
		t.Errorf("how often each can be: %v", count)
	}
}

// leaveOf returns the choice that is told of a book.
func leaveOf(t *testing.T, b api.NightBook) (choice []int, isAny bool) {
	t.Helper()
	choice, e := night.Leave(b)
	if e != api.OK && e != api.ErrNone {
		t.Fatalf("Leave of %v: %d", b, e)
	}
	return choice, e == api.OK
}

// P10.8, P10.9: with the choice that is told, and with cues that are asked ahead of each scene, each part ends in time, and what must be played is; no choice of less weight fits, and cues leave out no more weight.
func TestTrueNights(t *testing.T) {
	fit, less := 0, 0
	randomBooks(7, 2000, 10, 200, func(r *rand.Rand, b api.NightBook) {
		choice, isAny := leaveOf(t, b)
		if !isAny {
			return
		}
		fit++
		if best, isAny := bestOf(b, nil, worst(b, nil)); !isAny || weightOf(b, best) != weightOf(b, choice) {
			t.Fatalf("Leave of %v: %v, but %v is of less weight", b, choice, best)
		}
		for range 3 {
			long := randomTruth(r, b)
			cued := followed(t, b, long)
			for _, l := range [][]int{choice, cued} {
				if !isInTime(b, l, long) || slices.ContainsFunc(l, func(number int) bool { return b.Scenes[number].Must }) {
					t.Fatalf("%v: %v is not in time without %v, or what must be played is not", b, long, l)
				}
			}
			if weightOf(b, cued) > weightOf(b, choice) {
				t.Fatalf("%v, %v: cues leave out %v, not %v", b, long, cued, choice)
			}
			if weightOf(b, cued) < weightOf(b, choice) {
				less++
			}
		}
		if l := followed(t, b, worst(b, nil)); weightOf(b, l) != weightOf(b, choice) {
			t.Fatalf("%v: cues leave out %v at the worst, not %v", b, l, choice)
		}
	})
	if fit < 500 || less < 100 {
		t.Errorf("%d books fit, and cues leave out less %d times", fit, less)
	}
}

// followed returns what is left out if each cue is asked, and checks that Play tells the same.
func followed(t *testing.T, b api.NightBook, long []int) []int {
	t.Helper()
	var done, all []int
	for number, n := range long {
		cue, e := night.Cue(b, done)
		if e != api.OK || slices.ContainsFunc(cue, func(other int) bool { return other < number }) {
			t.Fatalf("Cue of %v, %v: %v, %d", b, done, cue, e)
		}
		if slices.Contains(cue, number) {
			all = append(all, number)
			n = left
		}
		done = append(done, n)
	}
	if l, e := night.Play(b, long); !slices.Equal(l, all) || e != api.OK {
		t.Fatalf("Play of %v, %v: %v, %d, not %v", b, long, l, e, all)
	}
	return all
}

// easier returns a book with a later end, an earlier opening or beginning, or a scene that is surely shorter.
func easier(r *rand.Rand, b api.NightBook) api.NightBook {
	b = copied(b)
	part, number := r.IntN(3), r.IntN(len(b.Scenes))
	switch r.IntN(4) {
	case 0:
		b.Ends[part] += r.IntN(min(60, 2001-b.Ends[part]))
	case 1:
		b.Opens[part] = r.IntN(b.Opens[part] + 1)
	case 2:
		b.Begin = r.IntN(b.Begin + 1)
	default:
		s := &b.Scenes[number].Long
		s.High = r.IntN(s.High + 1)
		s.Low = r.IntN(min(s.Low, s.High) + 1)
	}
	return b
}

// P10.10: with a later end, an earlier opening or beginning, or a shorter scene no more weight is left out.
func TestEasier(t *testing.T) {
	anew, less := 0, 0
	randomBooks(8, 3000, 10, 200, func(r *rand.Rand, b api.NightBook) {
		other := easier(r, b)
		choice, isAny := leaveOf(t, b)
		better, isStill := leaveOf(t, other)
		if isAny && (!isStill || weightOf(other, better) > weightOf(b, choice)) {
			t.Fatalf("%v leaves %v, but %v leaves %v", b, choice, other, better)
		}
		if !isAny && isStill {
			anew++
		}
		if isAny && weightOf(other, better) < weightOf(b, choice) {
			less++
		}
	})
	if anew < 20 || less < 100 {
		t.Errorf("%d times a choice fits anew, %d times less weight is left", anew, less)
	}
}

// P10.10: a play that begins later by what can be spared leaves out no more, by a minute more it would.
func TestSpared(t *testing.T) {
	more := 0
	randomBooks(9, 1500, 10, 200, func(r *rand.Rand, b api.NightBook) {
		choice, isAny := leaveOf(t, b)
		if !isAny {
			return
		}
		n, e := night.Spare(b)
		if e != api.OK || n < 0 || n > 1000 {
			t.Fatalf("Spare of %v: %d, %d", b, n, e)
		}
		later := b
		later.Begin += n
		same, isAny := leaveOf(t, later)
		if !isAny || weightOf(b, same) != weightOf(b, choice) {
			t.Fatalf("%v leaves %v, but %d later %v", b, choice, n, same)
		}
		if n == 1000 || later.Begin == 2000 {
			return
		}
		later.Begin++
		if worse, isAny := leaveOf(t, later); isAny && weightOf(b, worse) <= weightOf(b, choice) {
			t.Fatalf("%v leaves %v, but more than %d later %v", b, choice, n, worse)
		}
		more++
	})
	if more < 300 {
		t.Errorf("%d times a minute more is too much", more)
	}
}

// fewestOf returns the fewest carts for all loads, of which the first ones, up to this number, are on these carts already: each other one is put on each of them, or on a new one.
func fewestOf(b api.NightBook, number int, carts []int) int {
	if number == len(b.Loads) {
		return len(carts)
	}
	fewest := fewestOf(b, number+1, append(slices.Clone(carts), b.Loads[number]))
	for cart := range carts {
		more := slices.Clone(carts)
		if more[cart] += b.Loads[number]; more[cart] <= b.Cart {
			fewest = min(fewest, fewestOf(b, number+1, more))
		}
	}
	return fewest
}

// P10.6, P10.11: carts, against all ways to load them.
func TestAllCarts(t *testing.T) {
	heavy := 0
	count := make([]int, 9)
	randomBooks(10, 300, 1, 1, func(r *rand.Rand, _ api.NightBook) {
		b := moneyed(r)
		isHeavy := slices.ContainsFunc(b.Loads, func(weight int) bool { return weight > b.Cart })
		lists, e := night.Carts(b)
		if e != errorOf(!isHeavy) {
			t.Fatalf("Carts of %v, %d: %v, %d", b.Loads, b.Cart, lists, e)
		}
		if isHeavy {
			heavy++
			return
		}
		wantCarts(t, b, lists)
		if want := fewestOf(b, 0, nil); len(lists) != want {
			t.Fatalf("Carts of %v, %d: %v, not %d", b.Loads, b.Cart, lists, want)
		}
		count[len(lists)]++
	})
	if heavy < 10 || slices.Min(count[:6]) < 10 {
		t.Errorf("%d loads are too heavy, and as often there are these carts: %v", heavy, count)
	}
}

// P10.6, P10.12: what players are paid is the fee without carts and feasts; the coins that are left go to those who lost the most, and of them to the first ones.
func TestAllPays(t *testing.T) {
	paid, ties, short := 0, 0, 0
	randomBooks(11, 3000, 1, 1, func(r *rand.Rand, _ api.NightBook) {
		b := moneyed(r)
		lists, e := night.Carts(b)
		l, f := night.Pay(b)
		rest := b.Fee - len(lists)*b.Cost - len(b.Shares)*b.Feast
		if e != api.OK || rest < 0 {
			if e == api.OK {
				e = api.ErrNightShort
				short++
			}
			if f != e || len(l) > 0 {
				t.Fatalf("Pay of %v: %v, %d, not %d", b, l, f, e)
			}
			return
		}
		if f != api.OK || len(l) != len(b.Shares) {
			t.Fatalf("Pay of %v: %v, %d", b, l, f)
		}
		all, sum := 0, 0
		for who, share := range b.Shares {
			all += share
			sum += l[who]
		}
		if sum != rest {
			t.Fatalf("Pay of %v: %v, which is %d, not %d", b, l, sum, rest)
		}
		// cut tells how much was cut off, in parts of a coin, of who got no more, and of who got a coin more.
		var cut [2][]int
		for who, share := range b.Shares {
			part := rest * share
			more := l[who] - part/all
			if more < 0 || more > 1 || more == 1 && part%all == 0 {
				t.Fatalf("Pay of %v: %v, but the part of %d is %d by %d", b, l, who, part, all)
			}
			cut[more] = append(cut[more], part%all)
		}
		if len(cut[1]) > 0 {
			paid++
			least := slices.Min(cut[1])
			if most := slices.Max(cut[0]); most > least {
				t.Fatalf("Pay of %v: %v, but %d was cut off where there is no coin", b, l, most)
			}
			wantFirst(t, b, l, least, all, rest)
			if slices.Contains(cut[0], least) {
				ties++
			}
		}
	})
	if paid < 500 || ties < 100 || short < 100 {
		t.Errorf("%d times coins are left, %d times it is the first one's, %d times the fee is not enough", paid, ties, short)
	}
}

// wantFirst checks that of the players of whose part just so much was cut off none gets a coin more behind one who does not.
func wantFirst(t *testing.T, b api.NightBook, paid []int, cut, all, rest int) {
	t.Helper()
	isOver := false
	for who, share := range b.Shares {
		if part := rest * share; part%all == cut {
			more := paid[who] > part/all
			if more && isOver {
				t.Fatalf("Pay of %v: %v, but a player ahead of %d lost as much", b, paid, who)
			}
			isOver = isOver || !more
		}
	}
}

// anyNumber returns a number that mostly is small, but can be any.
func anyNumber(r *rand.Rand) int {
	switch r.IntN(12) {
	case 0:
		return math.MinInt
	case 1:
		return math.MaxInt
	case 2:
		return r.Int() - r.Int()
	}
	return r.IntN(10) - 2
}

func anyList(r *rand.Rand) []int {
	var list []int
	for range r.IntN(14) {
		list = append(list, anyNumber(r))
	}
	return list
}

// P1: no function panics or goes on for ever, whatever the arguments are.
func TestAnything(t *testing.T) {
	randomBooks(12, 4000, 10, 200, func(r *rand.Rand, b api.NightBook) {
		for range r.IntN(3) {
			n := anyNumber(r)
			s := &b.Scenes[r.IntN(len(b.Scenes))]
			change := []func(){
				func() { b.Begin = n }, func() { b.Opens = anyList(r) }, func() { b.Ends = anyList(r) }, func() { s.Part = n },
				func() { s.Weight = n }, func() { s.Long.Low = n }, func() { s.Long.High = n }, func() { s.Long = span(math.MinInt, math.MaxInt) },
				func() { s.Must = !s.Must }, func() { b.Fee = n }, func() { b.Loads = anyList(r) }, func() { b.Cart = n },
				func() { b.Cost, b.Feast = n, anyNumber(r) }, func() { b.Shares = anyList(r) },
			}
			change[r.IntN(len(change))]()
		}
		q := question{choice: anyList(r), done: anyList(r), long: anyList(r)}
		isWrong := night.Check(b) != api.OK
		if !isWrong && r.IntN(2) == 0 {
			choices := allChoices(b)
			q = question{choice: choices[r.IntN(len(choices))], done: randomDone(r, b), long: randomTruth(r, b)}
		}
		_, errors := answers(b, q)
		for i, e := range errors {
			if (e == api.ErrNight) != isWrong {
				t.Fatalf("the error %d of %v is %d", i, b, e)
			}
			if e != api.OK && e != api.ErrNight && e != api.ErrNightAsk && e != api.ErrNone && e != api.ErrNightShort {
				t.Fatalf("the error %d of %v, %v is %d", i, b, q, e)
			}
		}
	})
}
