package drum_test

import (
	"math"
	"math/rand/v2"
	"slices"
	"testing"

	"saron/api"
	"saron/drum"
)

// The tests of this file hold the package against a plain search that takes each definition of the chapter word by word, with random books of few beats that are the same every time, and the properties of the chapter against books of all sizes.

// randomBooks calls the test with many valid books, always the same ones, of up to so many parts of up to so many beats.
func randomBooks(seed uint64, many, parts, size int, test func(r *rand.Rand, b api.DrumBook)) {
	r := rand.New(rand.NewPCG(seed, 8))
	for range many {
		test(r, randomBook(r, 1+r.IntN(parts), 1+r.IntN(size)))
	}
}

// randomBook makes a book that mostly has a path with the right end, which lasts about as long as it should; its players mostly can catch up.
func randomBook(r *rand.Rand, parts, size int) api.DrumBook {
	b := api.DrumBook{Parts: parts, Size: size, Notice: 1 + r.IntN(size), Slip: randomSpan(r, r.IntN(4))}
	longest := []int{3, 40, 1000}[r.IntN(3)]
	for range 4 {
		b.Beats = append(b.Beats, 1+r.IntN(longest))
	}
	p := randomPath(r, parts)
	b.Start, b.End = p[0], p[parts-1]
	if r.IntN(8) == 0 {
		b.End = r.IntN(4)
	}
	length, slack := timeOf(b, p), 1+size*parts*longest/4
	b.Time = span(max(0, length-r.IntN(slack)), min(length+r.IntN(slack), 128000))
	if r.IntN(4) == 0 {
		b.Time = span(0, 128000)
	}
	catch := r.IntN(4)
	for range 1 + min(r.IntN(5), r.IntN(5)) {
		b.Players = append(b.Players, randomPlayer(r, parts*size, catch))
	}
	return b
}

// randomPlayer makes a player who catches up by about this much in each one of so many beats.
func randomPlayer(r *rand.Rand, beats, catch int) api.DrumPlayer {
	x := api.DrumPlayer{Late: randomSpan(r, []int{0, 3, beats * catch / 2, beats * catch}[r.IntN(4)])}
	for range 4 {
		s := randomSpan(r, 2)
		x.Catch = append(x.Catch, span(s.Low+catch, s.High+catch))
	}
	return x
}

// randomSpan returns a span of numbers up to this one.
func randomSpan(r *rand.Rand, most int) api.Span {
	one, other := r.IntN(most+1), r.IntN(most+1)
	return span(min(one, other), max(one, other))
}

// randomPath returns a path of some book.
func randomPath(r *rand.Rand, parts int) []int {
	p := of(r.IntN(4))
	for len(p) < parts {
		if next := p[len(p)-1] + r.IntN(3) - 1; 0 <= next && next <= 3 {
			p = append(p, next)
		}
	}
	return p
}

// pathFrom returns a path of the book.
func pathFrom(r *rand.Rand, b api.DrumBook) []int {
	for {
		if p := randomPath(r, b.Parts); p[0] == b.Start {
			return p
		}
	}
}

func isPathOf(b api.DrumBook, p []int) bool {
	if len(p) != b.Parts || p[0] != b.Start {
		return false
	}
	for part, density := range p {
		if density < 0 || density > 3 {
			return false
		}
		if part > 0 && density != p[part-1]-1 && density != p[part-1] && density != p[part-1]+1 {
			return false
		}
	}
	return true
}

// allLists returns all lists of so many densities, in their order.
func allLists(parts int) [][]int {
	all := [][]int{nil}
	for range parts {
		var longer [][]int
		for _, p := range all {
			for density := range 4 {
				longer = append(longer, append(slices.Clone(p), density))
			}
		}
		all = longer
	}
	return all
}

// timeOf counts the beats of a path one by one.
func timeOf(b api.DrumBook, p []int) int {
	length := 0
	for beat := range b.Parts * b.Size {
		length += b.Beats[p[beat/b.Size]]
	}
	return length
}

// canBe returns all numbers by which a player can be late, increasing: those of each number after some beats, from all numbers before.
func canBe(b api.DrumBook, p []int, player, beats int) []int {
	var now []int
	for n := b.Players[player].Late.Low; n <= b.Players[player].Late.High; n++ {
		now = append(now, n)
	}
	for beat := range beats {
		part := beat / b.Size
		if beat > 0 && (beat-1)/b.Size != part && p[part] != p[part-1] {
			now = moved(now, b.Slip, 1)
		}
		now = moved(now, b.Players[player].Catch[p[part]], -1)
	}
	return now
}

// moved returns all numbers, increasing, that differ from one of these by one of a span, but are not below 0.
func moved(numbers []int, by api.Span, way int) []int {
	var all []int
	for _, n := range numbers {
		for m := by.Low; m <= by.High; m++ {
			all = append(all, max(0, n+way*m))
		}
	}
	slices.Sort(all)
	return slices.Compact(all)
}

func isPlanOf(b api.DrumBook, p []int) bool {
	if length := timeOf(b, p); p[b.Parts-1] != b.End || length < b.Time.Low || length > b.Time.High {
		return false
	}
	for player := range b.Players {
		if !slices.Equal(canBe(b, p, player, b.Parts*b.Size), of(0)) {
			return false
		}
	}
	return true
}

// plansOf returns all plans, in their order.
func plansOf(b api.DrumBook) [][]int {
	return slices.DeleteFunc(allLists(b.Parts), func(p []int) bool { return !isPathOf(b, p) || !isPlanOf(b, p) })
}

func changesOf(p []int) int {
	many := 0
	for part := range p {
		if part > 0 && p[part] != p[part-1] {
			many++
		}
	}
	return many
}

// errorOf returns ErrNone where there is nothing.
func errorOf(isNone bool) api.Errno {
	if isNone {
		return api.ErrNone
	}
	return api.OK
}

// P8.1, P8.2, P8.9: how long paths last, and how late players are; both ends of what is told are so in a truth.
func TestAllPaths(t *testing.T) {
	wide, someLast := 0, 0
	randomBooks(1, 1500, 8, 5, func(r *rand.Rand, b api.DrumBook) {
		p := pathFrom(r, b)
		if n, e := drum.Time(b, p); n != timeOf(b, p) || e != api.OK {
			t.Fatalf("Time of %v, %v: %d, %d, not %d", b, p, n, e, timeOf(b, p))
		}
		var last []int
		beats := r.IntN(b.Parts*b.Size + 1)
		for player := range b.Players {
			can := canBe(b, p, player, beats)
			want := span(can[0], can[len(can)-1])
			if s, e := drum.Late(b, p, player, beats); s != want || e != api.OK {
				t.Fatalf("Late of %v, %v, %d, %d: %v, %d, not %v", b, p, player, beats, s, e, want)
			}
			if want.Low < want.High {
				wide++
			}
			if can := canBe(b, p, player, b.Parts*b.Size); can[len(can)-1] > 0 {
				last = append(last, player)
			}
		}
		if l, e := drum.Last(b, p); !slices.Equal(l, last) || e != api.OK {
			t.Fatalf("Last of %v, %v: %v, %d, not %v", b, p, l, e, last)
		}
		if len(last) > 0 && len(last) < len(b.Players) {
			someLast++
		}
	})
	if wide < 500 || someLast < 100 {
		t.Errorf("%d times it is not known how late a player is, %d times some players are late at last", wide, someLast)
	}
}

// P8.1, P8.3: what is a path, and a plan; the calmest plan, and how many there are.
func TestAllPlans(t *testing.T) {
	none, many, later := 0, 0, 0
	randomBooks(2, 1500, 5, 4, func(r *rand.Rand, b api.DrumBook) {
		all := plansOf(b)
		if n, e := drum.Plans(b); n != len(all) || e != api.OK {
			t.Fatalf("Plans of %v: %d, %d, not %d", b, n, e, len(all))
		}
		var best []int
		for _, p := range all {
			if best == nil || changesOf(p) < changesOf(best) {
				best = p
			}
		}
		if p, e := drum.Plan(b); !slices.Equal(p, best) || e != errorOf(len(all) == 0) {
			t.Fatalf("Plan of %v: %v, %d, not %v", b, p, e, best)
		}
		for range 20 {
			p := pathFrom(r, b)
			if len(all) > 0 && r.IntN(2) == 0 {
				p = slices.Clone(all[r.IntN(len(all))])
			}
			if r.IntN(3) == 0 {
				p[r.IntN(len(p))] = r.IntN(6) - 1
			}
			isPath := isPathOf(b, p)
			if _, e := drum.Time(b, p); (e == api.OK) != isPath || (e == api.ErrDrumAsk) == isPath {
				t.Fatalf("Time of %v, %v: %d", b, p, e)
			}
			if is, e := drum.IsPlan(b, p); is != (isPath && isPlanOf(b, p)) || e != api.OK {
				t.Fatalf("IsPlan of %v, %v: %v, %d", b, p, is, e)
			}
		}
		switch {
		case len(all) == 0:
			none++
		case len(all) > 1:
			many++
		}
		if len(all) > 0 && !slices.Equal(best, all[0]) {
			later++
		}
	})
	if none < 100 || many < 100 || later < 100 {
		t.Errorf("%d times there is no plan, %d times several ones, %d times the calmest is not the first one", none, many, later)
	}
}

// withLate returns a book in which a player is late by up to this number.
func withLate(b api.DrumBook, player, late int) api.DrumBook {
	b = copied(b)
	b.Players[player].Late = span(0, late)
	return b
}

// P8.4: how late a player can be, by all numbers that there are, one by one.
func TestAllBounds(t *testing.T) {
	count := map[string]int{}
	randomBooks(3, 400, 4, 4, func(r *rand.Rand, b api.DrumBook) {
		for player := range b.Players {
			b := copied(b)
			if r.IntN(4) == 0 {
				for density := range 4 {
					b.Players[player].Catch[density] = randomSpan(r, 100)
				}
			}
			// Only a path that is a plan for who is not late can be one for who is.
			never := plansOf(withLate(b, player, 0))
			want := -1
			for n := 0; n <= 500 && len(never) > 0; n++ {
				alone := withLate(b, player, n)
				alone.Players = alone.Players[player : player+1]
				if !slices.ContainsFunc(never, func(p []int) bool { return mostAtLast(alone, p) == 0 }) {
					break
				}
				want = n
			}
			n, e := drum.Bound(b, player)
			if n != max(0, want) || e != errorOf(want < 0) {
				t.Fatalf("Bound of %v, %d: %d, %d, not %d", b, player, n, e, want)
			}
			switch want {
			case -1:
				count["none"]++
			case 0:
				count["0"]++
			case 500:
				count["500"]++
			default:
				count["more"]++
			}
		}
	})
	if count["none"] < 50 || count["0"] < 10 || count["500"] < 10 || count["more"] < 50 {
		t.Errorf("how often each bound is told: %v", count)
	}
}

// mostAtLast returns up to how late the only player of a book can be after all beats.
func mostAtLast(b api.DrumBook, p []int) int {
	late := b.Players[0].Late.High
	for part, density := range p {
		if part > 0 && p[part-1] != density {
			late += b.Slip.High
		}
		late = max(0, late-b.Size*b.Players[0].Catch[density].Low)
	}
	return late
}

// marksOf returns what a path does at each mark.
func marksOf(p []int) []int {
	var marks []int
	for part := range p {
		switch {
		case part == 0:
		case p[part] > p[part-1]:
			marks = append(marks, 1)
		case p[part] < p[part-1]:
			marks = append(marks, -1)
		default:
			marks = append(marks, 0)
		}
	}
	return marks
}

// randomHeard returns what can be heard, mostly of one of these plans.
func randomHeard(r *rand.Rand, b api.DrumBook, all [][]int) []int {
	heard := marksOf(pathFrom(r, b))
	if len(all) > 0 && r.IntN(4) > 0 {
		heard = marksOf(all[r.IntN(len(all))])
	}
	share := r.IntN(5)
	for mark := range heard {
		if r.IntN(4) < share {
			heard[mark] = lost
		}
	}
	if len(heard) > 0 && r.IntN(4) == 0 {
		heard[r.IntN(len(heard))] = r.IntN(4) - 2
	}
	return heard
}

// P8.6: what a listener knows, by all plans that there are.
func TestAllHeard(t *testing.T) {
	none, unsure := 0, 0
	randomBooks(4, 1500, 5, 3, func(r *rand.Rand, b api.DrumBook) {
		all := plansOf(b)
		heard, part := randomHeard(r, b, all), r.IntN(b.Parts)
		var want []int
		for _, p := range all {
			fits := true
			for mark, does := range marksOf(p) {
				fits = fits && (heard[mark] == -2 || heard[mark] == does)
			}
			if fits {
				want = append(want, p[part])
			}
		}
		slices.Sort(want)
		want = slices.Compact(want)
		if k, e := drum.Knows(b, heard, part); !slices.Equal(k, want) || e != errorOf(len(want) == 0) {
			t.Fatalf("Knows of %v, %v, %d: %v, %d, not %v", b, heard, part, k, e, want)
		}
		if len(want) == 0 && len(all) > 0 {
			none++
		}
		if len(want) > 1 {
			unsure++
		}
	})
	if none < 50 || unsure < 50 {
		t.Errorf("%d times none of some plans fits, %d times several densities can be", none, unsure)
	}
}

// truly plays a path with numbers that are chosen anew each time, and returns how late all players are at first, and after each beat.
func truly(r *rand.Rand, b api.DrumBook, p []int) [][]int {
	var late []int
	choose := func(s api.Span) int {
		return []int{s.Low, s.High, s.Low + r.IntN(s.High-s.Low+1)}[r.IntN(3)]
	}
	for _, x := range b.Players {
		late = append(late, choose(x.Late))
	}
	all := [][]int{slices.Clone(late)}
	for part, density := range p {
		for beat := range b.Size {
			for who, x := range b.Players {
				if beat == 0 && part > 0 && density != p[part-1] {
					late[who] += choose(b.Slip)
				}
				late[who] = max(0, late[who]-choose(x.Catch[density]))
			}
			all = append(all, slices.Clone(late))
		}
	}
	return all
}

// somePlans returns a few plans of a book of any size, the calmest one among them, if it has any.
func somePlans(r *rand.Rand, b api.DrumBook) [][]int {
	p, e := drum.Plan(b)
	if e != api.OK {
		return nil
	}
	all := [][]int{p}
	for range 50 {
		p := pathFrom(r, b)
		if is, _ := drum.IsPlan(b, p); is && len(all) < 5 {
			all = append(all, p)
		}
	}
	return all
}

// P8.8: with a plan nobody is late at the end, whatever players truly do.
func TestGreatGong(t *testing.T) {
	ends := 0
	randomBooks(5, 300, 8, 16, func(r *rand.Rand, b api.DrumBook) {
		for _, p := range somePlans(r, b) {
			for range 5 {
				all := truly(r, b, p)
				if end := all[len(all)-1]; slices.Max(end) != 0 {
					t.Fatalf("with the plan %v of %v the players end late by %v", p, b, end)
				}
				ends++
			}
		}
	})
	if ends < 1000 {
		t.Errorf("only %d ends", ends)
	}
}

// P8.8: however late a player truly is, up to the bound that is told, there is a plan; beyond it there is none.
func TestUpToTheBound(t *testing.T) {
	many := 0
	randomBooks(6, 300, 8, 16, func(r *rand.Rand, b api.DrumBook) {
		who := r.IntN(len(b.Players))
		bound, e := drum.Bound(b, who)
		if e != api.OK {
			if n, _ := drum.Plans(withLate(b, who, 0)); n > 0 {
				t.Fatalf("Bound of %v, %d: %d, but there is a plan", b, who, e)
			}
			return
		}
		many++
		for _, late := range of(0, r.IntN(bound+1), bound) {
			b := withLate(b, who, late)
			p, e := drum.Plan(b)
			if e != api.OK {
				t.Fatalf("%v has no plan for %d, but the bound is %d", b, who, bound)
			}
			b.Players[who].Late.Low = late
			all := truly(r, b, p)
			if end := all[len(all)-1]; slices.Max(end) != 0 {
				t.Fatalf("with the plan %v of %v the players end late by %v", p, b, end)
			}
		}
		if bound == 500 {
			return
		}
		if n, e := drum.Plans(withLate(b, who, bound+1)); n != 0 || e != api.OK {
			t.Fatalf("%v has %d plans, %d, beyond the bound %d of %d", b, n, e, bound, who)
		}
	})
	if many < 100 {
		t.Errorf("only %d bounds", many)
	}
}

// atEnds returns a book in which all numbers are at one end: as late as can be, or as little late.
func atEnds(b api.DrumBook, isLatest bool) api.DrumBook {
	b = copied(b)
	fix := func(s *api.Span, isHigh bool) {
		if isHigh {
			s.Low = s.High
		}
		s.High = s.Low
	}
	fix(&b.Slip, isLatest)
	for who := range b.Players {
		fix(&b.Players[who].Late, isLatest)
		for density := range 4 {
			fix(&b.Players[who].Catch[density], !isLatest)
		}
	}
	return b
}

// P8.9: players are as late as is told, after each beat, and both ends are so in a truth; who is told to be late at last is just who can be.
func TestTrueLateness(t *testing.T) {
	randomBooks(7, 200, 8, 16, func(r *rand.Rand, b api.DrumBook) {
		p := pathFrom(r, b)
		earliest, latest := truly(r, atEnds(b, false), p), truly(r, atEnds(b, true), p)
		var told [][]api.Span
		for beats := range earliest {
			var spans []api.Span
			for who := range b.Players {
				s, e := drum.Late(b, p, who, beats)
				if want := span(earliest[beats][who], latest[beats][who]); s != want || e != api.OK {
					t.Fatalf("Late of %v, %v, %d, %d: %v, %d, not %v", b, p, who, beats, s, e, want)
				}
				spans = append(spans, s)
			}
			told = append(told, spans)
		}
		last, e := drum.Last(b, p)
		for who, late := range latest[len(latest)-1] {
			if slices.Contains(last, who) != (late > 0) || e != api.OK {
				t.Fatalf("Last of %v, %v: %v, %d, but %d can be late by %d", b, p, last, e, who, late)
			}
		}
		for range 5 {
			for beats, all := range truly(r, b, p) {
				for who, late := range all {
					if s := told[beats][who]; late < s.Low || late > s.High {
						t.Fatalf("%d is late by %d after %d beats of %v of %v, not by %v", who, late, beats, p, b, s)
					}
				}
			}
		}
	})
}

// P8.10: no plan has fewer changes than the one that is told; plans last as long as they should, and there is one just if their number is above 0.
func TestCalmest(t *testing.T) {
	many, none := 0, 0
	randomBooks(8, 500, 8, 16, func(r *rand.Rand, b api.DrumBook) {
		n, e := drum.Plans(b)
		plan, f := drum.Plan(b)
		if e != api.OK || f != errorOf(n == 0) {
			t.Fatalf("Plans of %v: %d, %d, and Plan: %d", b, n, e, f)
		}
		for range 100 {
			p := pathFrom(r, b)
			if is, _ := drum.IsPlan(b, p); is && (n == 0 || changesOf(p) < changesOf(plan)) {
				t.Fatalf("%v is a plan of %v, of which %d are told, and first %v", p, b, n, plan)
			}
		}
		if n == 0 {
			none++
			return
		}
		many++
		is, e := drum.IsPlan(b, plan)
		length, f := drum.Time(b, plan)
		if !is || e != api.OK || f != api.OK || length < b.Time.Low || length > b.Time.High || plan[b.Parts-1] != b.End {
			t.Fatalf("the plan %v of %v: %v, %d; it lasts %d, %d", plan, b, is, e, length, f)
		}
	})
	if many < 100 || none < 50 {
		t.Errorf("%d books have plans, %d none", many, none)
	}
}

// easier returns a book that asks for less; without tells which player there is no more, or -1.
func easier(r *rand.Rand, b api.DrumBook) (other api.DrumBook, without int) {
	b = copied(b)
	who := r.IntN(len(b.Players))
	switch kind := r.IntN(5); {
	case kind == 0:
		catch := &b.Players[who].Catch[r.IntN(4)]
		catch.High += r.IntN(101 - catch.High)
		catch.Low += r.IntN(catch.High - catch.Low + 1)
	case kind == 1:
		late := &b.Players[who].Late
		late.Low -= r.IntN(late.Low + 1)
		late.High -= r.IntN(late.High - late.Low + 1)
	case kind == 2:
		b.Slip.Low -= r.IntN(b.Slip.Low + 1)
		b.Slip.High -= r.IntN(b.Slip.High - b.Slip.Low + 1)
	case kind == 3 && len(b.Players) > 1:
		b.Players = slices.Delete(b.Players, who, who+1)
		return b, who
	default:
		b.Time.Low -= r.IntN(b.Time.Low + 1)
		b.Time.High += r.IntN(128001 - b.Time.High)
	}
	return b, -1
}

// boundOf returns the bound of a player, or -1 if there is none.
func boundOf(t *testing.T, b api.DrumBook, player int) int {
	t.Helper()
	n, e := drum.Bound(b, player)
	if e == api.ErrNone {
		return -1
	}
	if e != api.OK {
		t.Fatalf("Bound of %v, %d: %d", b, player, e)
	}
	return n
}

// P8.11: where less is asked for each plan stays one, and the bound of nobody gets less.
func TestEasier(t *testing.T) {
	more, greater := 0, 0
	randomBooks(9, 800, 8, 16, func(r *rand.Rand, b api.DrumBook) {
		other, without := easier(r, b)
		if e := drum.Check(other); e != api.OK {
			t.Fatalf("%v is not valid: %d", other, e)
		}
		for _, p := range somePlans(r, b) {
			if is, e := drum.IsPlan(other, p); !is || e != api.OK {
				t.Fatalf("the plan %v of %v is none of %v: %d", p, b, other, e)
			}
		}
		n, _ := drum.Plans(b)
		m, _ := drum.Plans(other)
		if m < n {
			t.Fatalf("%v has %d plans, and %v has %d", b, n, other, m)
		}
		if m > n {
			more++
		}
		for who := range other.Players {
			before := who
			if without >= 0 && who >= without {
				before++
			}
			n, m := boundOf(t, b, before), boundOf(t, other, who)
			if m < n {
				t.Fatalf("the bound of %d is %d in %v, but %d in %v", before, n, b, m, other)
			}
			if m > n {
				greater++
			}
		}
	})
	if more < 50 || greater < 50 {
		t.Errorf("%d times there are more plans, %d times a bound is greater", more, greater)
	}
}

// P8.5, P8.12: cues come before their marks, none before the cycle begins, and from them the path is known.
func TestCuesTell(t *testing.T) {
	randomBooks(10, 1000, 8, 16, func(r *rand.Rand, b api.DrumBook) {
		p := pathFrom(r, b)
		list, e := drum.Cues(b, p)
		if e != api.OK || len(list) != changesOf(p) {
			t.Fatalf("Cues of %v, %v: %v, %d", b, p, list, e)
		}
		change := make([]int, b.Parts)
		before := -1
		for _, c := range list {
			part := (c.Beat + b.Notice) / b.Size
			if c.Beat < 0 || c.Beat <= before || c.Beat >= part*b.Size || (c.Beat+b.Notice)%b.Size != 0 || part < 1 || part >= b.Parts {
				t.Fatalf("Cues of %v, %v: %v", b, p, list)
			}
			change[part] = c.Way
			before = c.Beat
		}
		density := b.Start
		for part := range p {
			if density += change[part]; density != p[part] {
				t.Fatalf("Cues of %v, %v: %v, by which the part %d has %d", b, p, list, part, density)
			}
		}
	})
}

// P8.13: the plan that the drum truly follows is among what a listener knows; who hears more knows no less.
func TestTruePlans(t *testing.T) {
	plans, less := 0, 0
	randomBooks(11, 400, 8, 16, func(r *rand.Rand, b api.DrumBook) {
		for _, p := range somePlans(r, b) {
			heard := marksOf(p)
			part := r.IntN(b.Parts)
			known := of(p[part])
			for _, mark := range append(r.Perm(len(heard)), -1) {
				k, e := drum.Knows(b, heard, part)
				if e != api.OK || slices.ContainsFunc(known, func(d int) bool { return !slices.Contains(k, d) }) {
					t.Fatalf("Knows of %v, %v, %d: %v, %d, but %v was known", b, heard, part, k, e, known)
				}
				if len(k) > len(known) {
					less++
				}
				known = k
				if mark >= 0 {
					heard[mark] = lost
				}
			}
			plans++
		}
	})
	if plans < 200 || less < 100 {
		t.Errorf("%d plans, and %d times less is known of them", plans, less)
	}
}

// anyNumber returns a number that mostly is small, but can be any.
func anyNumber(r *rand.Rand) int {
	switch r.IntN(12) {
	case 0:
		return math.MinInt
	case 1:
		return math.MaxInt
	case 2:
		return r.Int() - r.Int()
	}
	return r.IntN(10) - 2
}

func anyList(r *rand.Rand) []int {
	var list []int
	for range r.IntN(10) {
		list = append(list, anyNumber(r))
	}
	return list
}

// P1: no function panics or goes on for ever, whatever the arguments are.
func TestAnything(t *testing.T) {
	randomBooks(12, 4000, 8, 16, func(r *rand.Rand, b api.DrumBook) {
		for range r.IntN(3) {
			n := anyNumber(r)
			change := []func(){
				func() { b.Parts = n }, func() { b.Size = n }, func() { b.Start = n }, func() { b.End = n }, func() { b.Notice = n },
				func() { b.Time.Low = n }, func() { b.Time.High = n }, func() { b.Slip.High = n }, func() { b.Beats = anyList(r) },
				func() { b.Players = make([]api.DrumPlayer, r.IntN(7)) }, func() { b.Time = span(anyNumber(r), n) },
				func() { b.Slip = span(math.MinInt, math.MaxInt) },
			}
			change[r.IntN(len(change))]()
		}
		q := question{path: anyList(r), heard: anyList(r), player: anyNumber(r), beats: anyNumber(r), part: anyNumber(r)}
		if drum.Check(b) == api.OK && r.IntN(2) == 0 {
			q.path = pathFrom(r, b)
		}
		_, errors := answers(b, q)
		isWrong := drum.Check(b) != api.OK
		for i, e := range errors {
			if (e == api.ErrDrum) != isWrong {
				t.Fatalf("the error %d of %v is %d", i, b, e)
			}
			if e != api.OK && e != api.ErrDrum && e != api.ErrDrumAsk && e != api.ErrNone {
				t.Fatalf("the error %d of %v, %v is %d", i, b, q, e)
			}
		}
	})
}
