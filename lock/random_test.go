package lock_test

import (
	"math"
	"math/rand/v2"
	"slices"
	"testing"

	"saron/api"
	"saron/lock"
)

// The tests of this file hold the package against a plain search that takes each definition of the chapter word by word, with random lines of few slots that are the same every time, and the properties of the chapter against lines of all sizes.

// randomLines calls the test with many valid lines, always the same ones.
func randomLines(seed uint64, many, slots int, test func(r *rand.Rand, l api.LockLine)) {
	r := rand.New(rand.NewPCG(seed, 7))
	for range many {
		test(r, randomLine(r, 1+r.IntN(slots)))
	}
}

// randomLine makes a line of so many slots. Mostly its tones are few, and the players share some of them.
func randomLine(r *rand.Rand, slots int) api.LockLine {
	l := api.LockLine{Run: 1 + r.IntN(4)}
	if r.IntN(4) == 0 {
		l.Run = 1 + r.IntN(16)
	}
	tones := 1 + r.IntN(3)
	first := r.IntN(9 - tones)
	rests := r.IntN(3)
	for range slots {
		tone := first + r.IntN(tones)
		if r.IntN(6) < rests {
			tone = nothing
		}
		l.Slots = append(l.Slots, tone)
	}
	l.Slots[r.IntN(slots)] = first
	l.Left, l.Right = randomTones(r), randomTones(r)
	return l
}

// randomTones returns a set of tones, mostly one of many.
func randomTones(r *rand.Rand) int {
	set := 0
	for range 1 + r.IntN(3) {
		set |= r.IntN(256)
	}
	return set
}

// isSplitOf takes the definition word by word.
func isSplitOf(l api.LockLine, players []int) bool {
	for slot, tone := range l.Slots {
		switch who := players[slot]; {
		case tone == nothing:
			if who != nothing {
				return false
			}
		case who == 0:
			if l.Left&(1<<tone) == 0 {
				return false
			}
		case who == 1:
			if l.Right&(1<<tone) == 0 {
				return false
			}
		default:
			return false
		}
	}
	row := 0
	for time := range 100 {
		who := players[time%len(players)]
		if time > 0 && who != players[(time-1)%len(players)] {
			row = 0
		}
		row++
		if who != nothing && row > l.Run {
			return false
		}
	}
	return true
}

// allPlayers returns all lists of so many players, in their order.
func allPlayers(slots int) [][]int {
	all := [][]int{nil}
	for range slots {
		var longer [][]int
		for _, p := range all {
			for who := nothing; who <= right; who++ {
				longer = append(longer, append(slices.Clone(p), who))
			}
		}
		all = longer
	}
	return all
}

// splitsOf returns all splits of a line, in their order.
func splitsOf(l api.LockLine) [][]int {
	return slices.DeleteFunc(allPlayers(len(l.Slots)), func(p []int) bool { return !isSplitOf(l, p) })
}

// randomSplit returns a split of a line, if it has any.
func randomSplit(r *rand.Rand, l api.LockLine) (players []int, isAny bool) {
	for range 200 {
		players = nil
		for _, tone := range l.Slots {
			who := r.IntN(2)
			if tone == nothing {
				who = nothing
			} else if l.Left&(1<<tone) == 0 {
				who = right
			} else if l.Right&(1<<tone) == 0 {
				who = left
			}
			players = append(players, who)
		}
		if isSplitOf(l, players) {
			return players, true
		}
	}
	return nil, false
}

// partOf returns the slots that a player strikes.
func partOf(players []int, who int) []int {
	var part []int
	for slot, p := range players {
		if p == who {
			part = append(part, slot)
		}
	}
	return part
}

func differenceOf(players []int) int {
	d := len(partOf(players, left)) - len(partOf(players, right))
	return max(d, -d)
}

// errorOf returns ErrNone where there is nothing.
func errorOf(isNone bool) api.Errno {
	if isNone {
		return api.ErrNone
	}
	return api.OK
}

// P7.1, P7.2: all splits, the fairest one, and slots that are struck by the same player in all of them.
func TestAllSplits(t *testing.T) {
	none, some, fairer := 0, 0, 0
	randomLines(1, 1500, 7, func(r *rand.Rand, l api.LockLine) {
		all := splitsOf(l)
		if n, e := lock.Many(l); n != len(all) || e != api.OK {
			t.Fatalf("Many of %v: %d, %d, not %d", l, n, e, len(all))
		}
		for range 50 {
			p := make([]int, len(l.Slots))
			for i := range p {
				p[i] = r.IntN(4) - 1
			}
			if r.IntN(2) == 0 && len(all) > 0 {
				p = all[r.IntN(len(all))]
			}
			if is, e := lock.IsSplit(l, p); is != isSplitOf(l, p) || e != api.OK {
				t.Fatalf("IsSplit of %v, %v: %v, %d", l, p, is, e)
			}
		}
		var best, same []int
		for i, p := range all {
			if i == 0 || differenceOf(p) < differenceOf(best) {
				best = p
			}
		}
		for slot, tone := range l.Slots {
			if len(all) > 0 && tone != nothing && !slices.ContainsFunc(all, func(p []int) bool { return p[slot] != all[0][slot] }) {
				same = append(same, slot)
			}
		}
		if s, e := lock.Split(l); !slices.Equal(s, best) || e != errorOf(len(all) == 0) {
			t.Fatalf("Split of %v: %v, %d, not %v", l, s, e, best)
		}
		if f, e := lock.Forced(l); !slices.Equal(f, same) || e != errorOf(len(all) == 0) {
			t.Fatalf("Forced of %v: %v, %d, not %v", l, f, e, same)
		}
		switch {
		case len(all) == 0:
			none++
		case len(same) > 0 && len(same) < len(l.Slots):
			some++
		}
		if len(all) > 0 && !slices.Equal(best, all[0]) {
			fairer++
		}
	})
	if none < 100 || some < 100 || fairer < 100 {
		t.Errorf("%d times there is no split, %d times some slots are forced, %d times a later split is fairer", none, some, fairer)
	}
}

// randomHeard returns some slots, mostly of a part that there can be.
func randomHeard(r *rand.Rand, slots int, all [][]int, who int) []int {
	part := partOf(make([]int, slots), 0)
	if len(all) > 0 && r.IntN(5) > 0 {
		part = partOf(all[r.IntN(len(all))], who)
	}
	share := r.IntN(5)
	return slices.DeleteFunc(part, func(int) bool { return r.IntN(4) >= share })
}

// lostOf returns the strokes of a part that were not heard; isFit is false if others were.
func lostOf(part, heard []int) (lost []int, isFit bool) {
	for _, slot := range part {
		if !slices.Contains(heard, slot) {
			lost = append(lost, slot)
		}
	}
	return lost, len(lost)+len(heard) == len(part)
}

// P7.3, P7.7, P7.8: what is told of a part that was heard.
func TestAllHeard(t *testing.T) {
	fits, mates, unsure := 0, 0, 0
	randomLines(2, 3000, 8, func(r *rand.Rand, l api.LockLine) {
		all := splitsOf(l)
		who, lost := r.IntN(2), r.IntN(7)
		heard := randomHeard(r, len(l.Slots), all, who)
		count := map[int]int{}
		fit, fewest := 0, math.MaxInt
		var others []int
		isMate := false
		for _, p := range all {
			gone, isFit := lostOf(partOf(p, who), heard)
			if !isFit {
				continue
			}
			fewest = min(fewest, len(gone))
			if len(gone) == 0 {
				others, isMate = partOf(p, 1-who), true
			}
			if len(gone) <= lost {
				fit++
				for _, slot := range gone {
					count[slot]++
				}
			}
		}
		var inAll, inSome []int
		for slot := range l.Slots {
			if n := count[slot]; n > 0 && n == fit {
				inAll = append(inAll, slot)
			} else if n > 0 {
				inSome = append(inSome, slot)
			}
		}
		surely, perhaps, e := lock.Missing(l, who, heard, lost)
		if !slices.Equal(surely, inAll) || !slices.Equal(perhaps, inSome) || e != errorOf(fit == 0) {
			t.Fatalf("Missing of %v, %d, %v, %d: %v, %v, %d, not %v, %v", l, who, heard, lost, surely, perhaps, e, inAll, inSome)
		}
		if m, e := lock.Mate(l, who, heard); !slices.Equal(m, others) || e != errorOf(!isMate) {
			t.Fatalf("Mate of %v, %d, %v: %v, %d, not %v", l, who, heard, m, e, others)
		}
		isNone := fewest == math.MaxInt
		if isNone {
			fewest = 0
		}
		if n, e := lock.Least(l, who, heard); n != fewest || e != errorOf(isNone) {
			t.Fatalf("Least of %v, %d, %v: %d, %d, not %d", l, who, heard, n, e, fewest)
		}
		if isMate {
			mates++
		}
		if fit > 0 {
			fits++
		}
		if len(inAll) > 0 && len(inSome) > 0 {
			unsure++
		}
	})
	if fits < 300 || mates < 100 || unsure < 50 {
		t.Errorf("%d times a split fits, %d times there is a mate, %d times something is sure, but not all", fits, mates, unsure)
	}
}

// heardOf plays a line over and over, and tells what is heard in a round far behind the first one.
func heardOf(l api.LockLine, players []int, who, late int) [][]int {
	many := len(l.Slots)
	const rounds = 20
	all := make([][]int, many)
	for time := range rounds * many {
		slot := time % many
		if players[slot] == nothing {
			continue
		}
		at := time
		if players[slot] == who {
			at += late
		}
		if from := (rounds - 10) * many; at >= from && at < from+many {
			all[at-from] = append(all[at-from], l.Slots[slot])
		}
	}
	for i := range all {
		slices.Sort(all[i])
		all[i] = slices.Compact(all[i])
	}
	return all
}

func sameSounds(one, other [][]int) bool { return slices.EqualFunc(one, other, slices.Equal) }

// P7.4 to P7.6: what is heard of a player who is late, and what it tells.
func TestAllLate(t *testing.T) {
	count := map[int]int{}
	randomLines(3, 2000, 12, func(r *rand.Rand, l api.LockLine) {
		p, isAny := randomSplit(r, l)
		if !isAny {
			return
		}
		type way struct {
			who, late int
			heard     [][]int
		}
		var ways []way
		for who := range 2 {
			for late := range 9 {
				want := heardOf(l, p, who, late)
				if h, e := lock.Late(l, p, who, late); !sameSounds(h, want) || e != api.OK {
					t.Fatalf("Late of %v, %v, %d, %d: %v, %d, not %v", l, p, who, late, h, e, want)
				}
				ways = append(ways, way{who, late, want})
			}
		}
		known := 8
		for i, one := range ways {
			var want [][2]int
			for j, other := range ways {
				if !sameSounds(one.heard, other.heard) {
					continue
				}
				want = append(want, [2]int{other.who, other.late})
				if i != j && (one.late > 0 || other.late > 0) {
					known = min(known, max(one.late, other.late)-1)
				}
			}
			if w, e := lock.Which(l, p, one.heard); !slices.Equal(w, want) || e != api.OK {
				t.Fatalf("Which of %v, %v, %v: %v, %d, not %v", l, p, one.heard, w, e, want)
			}
		}
		if n, e := lock.Told(l, p); n != known || e != api.OK {
			t.Fatalf("Told of %v, %v: %d, %d, not %d", l, p, n, e, known)
		}
		count[known]++
	})
	for n := range 9 {
		if count[n] < 10 {
			t.Errorf("so often each number is told: %v", count)
		}
	}
}

// P7.10: both parts of a split strike the line, each slot once, with its tone, and neither strikes too often in a row.
func TestTheLine(t *testing.T) {
	many := 0
	randomLines(4, 300, 16, func(r *rand.Rand, l api.LockLine) {
		s, e := lock.Split(l)
		if e != api.OK {
			return
		}
		many++
		h, e := lock.Late(l, s, left, 0)
		if len(h) != len(l.Slots) || e != api.OK {
			t.Fatalf("Late of %v, %v: %v, %d", l, s, h, e)
		}
		for slot, tone := range l.Slots {
			isStruck := s[slot] == left || s[slot] == right
			if tone == nothing && (isStruck || len(h[slot]) > 0) || tone != nothing && (!isStruck || !slices.Equal(h[slot], of(tone))) {
				t.Fatalf("the split %v of %v sounds %v", s, l, h)
			}
		}
		row := 0
		for time := range 3 * 16 {
			if slot := time % len(s); time > 0 && s[slot] != s[(time-1)%len(s)] {
				row = 0
			}
			row++
			if s[time%len(s)] != nothing && row > l.Run {
				t.Fatalf("the split %v of %v: more than %d in a row", s, l, l.Run)
			}
		}
	})
	if many < 50 {
		t.Errorf("only %d lines have a split", many)
	}
}

// P7.11: the fairest split is one, none is fairer, and the part of the other one, asked back, is the first one again.
func TestFairest(t *testing.T) {
	many := 0
	randomLines(5, 300, 16, func(r *rand.Rand, l api.LockLine) {
		s, e := lock.Split(l)
		p, isAny := randomSplit(r, l)
		if isAny && e != api.OK {
			t.Fatalf("Split of %v: %d, but there is %v", l, e, p)
		}
		if !isAny {
			return
		}
		many++
		if is, e := lock.IsSplit(l, s); !is || e != api.OK || differenceOf(p) < differenceOf(s) {
			t.Fatalf("Split of %v: %v, but there is %v; it is one: %v, %d", l, s, p, is, e)
		}
		for who := range 2 {
			mate, e := lock.Mate(l, who, partOf(p, who))
			back, f := lock.Mate(l, 1-who, mate)
			if !slices.Equal(mate, partOf(p, 1-who)) || !slices.Equal(back, partOf(p, who)) || e != api.OK || f != api.OK {
				t.Fatalf("Mate of %v, %d, %v: %v, %d; and back: %v, %d", l, who, partOf(p, who), mate, e, back, f)
			}
		}
	})
	if many < 50 {
		t.Errorf("only %d lines have a split", many)
	}
}

// P7.11: with the players exchanged there are as many splits; with a longer run or more tones there are no fewer.
func TestMoreSplits(t *testing.T) {
	longer, richer := 0, 0
	randomLines(6, 1000, 16, func(r *rand.Rand, l api.LockLine) {
		n, e := lock.Many(l)
		turned := line(l.Right, l.Left, l.Run, l.Slots...)
		if m, f := lock.Many(turned); m != n || e != api.OK || f != api.OK {
			t.Fatalf("Many of %v: %d, %d; of %v: %d, %d", l, n, e, turned, m, f)
		}
		run := line(l.Left, l.Right, min(l.Run+1, 16), l.Slots...)
		m, e := lock.Many(run)
		if m < n || e != api.OK {
			t.Fatalf("Many of %v: %d; of %v: %d, %d", l, n, run, m, e)
		}
		if m > n {
			longer++
		}
		tones := line(l.Left|1<<r.IntN(8), l.Right|1<<r.IntN(8), l.Run, l.Slots...)
		m, e = lock.Many(tones)
		if m < n || e != api.OK {
			t.Fatalf("Many of %v: %d; of %v: %d, %d", l, n, tones, m, e)
		}
		if m > n {
			richer++
		}
	})
	if longer < 100 || richer < 50 {
		t.Errorf("%d times there are more splits with a longer run, %d times with more tones", longer, richer)
	}
}

// P7.12: who is late is among what is told; if it is no more than Told says, it is the only answer.
func TestWhoIsLate(t *testing.T) {
	alone := 0
	randomLines(7, 1000, 16, func(r *rand.Rand, l api.LockLine) {
		p, isAny := randomSplit(r, l)
		if !isAny {
			return
		}
		known, e := lock.Told(l, p)
		if known < 0 || known > 8 || e != api.OK {
			t.Fatalf("Told of %v, %v: %d, %d", l, p, known, e)
		}
		who, late := r.IntN(2), r.IntN(9)
		h, _ := lock.Late(l, p, who, late)
		w, e := lock.Which(l, p, h)
		if !slices.Contains(w, [2]int{who, late}) || e != api.OK {
			t.Fatalf("Which of %v, %v, %v: %v, %d, but %d is late by %d", l, p, h, w, e, who, late)
		}
		w = slices.DeleteFunc(w, func(x [2]int) bool { return x[1] > known || x == [2]int{1 - who, 0} && late == 0 })
		if late <= known && !slices.Equal(w, [][2]int{{who, late}}) {
			t.Fatalf("Which of %v, %v, %v: up to %d it is %v, but %d is late by %d", l, p, h, known, w, who, late)
		}
		if late > 0 && late <= known {
			alone++
		}
	})
	if alone < 50 {
		t.Errorf("only %d players are known to be late", alone)
	}
}

// P7.13: strokes that were surely lost were, and all that were are told; if only one split fits nothing is perhaps.
func TestTrueParts(t *testing.T) {
	sure, alone := 0, 0
	randomLines(8, 600, 13, func(r *rand.Rand, l api.LockLine) {
		p, isAny := randomSplit(r, l)
		if !isAny {
			return
		}
		who, most := r.IntN(2), r.IntN(7)
		truly := partOf(p, who)
		heard := slices.Clone(truly)
		for range min(r.IntN(most+1), len(heard)) {
			at := r.IntN(len(heard))
			heard = slices.Delete(heard, at, at+1)
		}
		gone, _ := lostOf(truly, heard)
		surely, perhaps, e := lock.Missing(l, who, heard, most)
		told := slices.Concat(surely, perhaps)
		for _, slot := range gone {
			if !slices.Contains(told, slot) {
				t.Fatalf("Missing of %v, %d, %v, %d: %v, %v, but of %v", l, who, heard, most, surely, perhaps, truly)
			}
		}
		for _, slot := range surely {
			if !slices.Contains(gone, slot) || e != api.OK {
				t.Fatalf("Missing of %v, %d, %v, %d: %v, %v, %d, but of %v", l, who, heard, most, surely, perhaps, e, truly)
			}
		}
		if n, e := lock.Least(l, who, heard); n > len(gone) || e != api.OK {
			t.Fatalf("Least of %v, %d, %v: %d, %d, but of %v", l, who, heard, n, e, truly)
		}
		if fits := manyFit(l, who, heard, most); fits == 1 {
			alone++
			if len(perhaps) > 0 || !slices.Equal(surely, gone) {
				t.Fatalf("Missing of %v, %d, %v, %d: %v, %v, but only %v fits", l, who, heard, most, surely, perhaps, truly)
			}
		}
		if len(surely) > 0 {
			sure++
		}
	})
	if sure < 50 || alone < 50 {
		t.Errorf("%d times something is sure, %d times one split fits alone", sure, alone)
	}
}

// manyFit asks of each part that a player could have whether it is one, and whether it fits.
func manyFit(l api.LockLine, who int, heard []int, lost int) int {
	many := 0
	for set := range 1 << len(l.Slots) {
		var part []int
		for slot := range l.Slots {
			if set>>slot&1 == 1 {
				part = append(part, slot)
			}
		}
		gone, isFit := lostOf(part, heard)
		if !isFit || len(gone) > lost {
			continue
		}
		if _, e := lock.Mate(l, who, part); e == api.OK {
			many++
		}
	}
	return many
}

// areIn reports whether a list has all of some slots.
func areIn(list, slots []int) bool {
	return !slices.ContainsFunc(slots, func(slot int) bool { return !slices.Contains(list, slot) })
}

// P7.14: with more strokes lost less is sure.
func TestMoreLost(t *testing.T) {
	fewer := 0
	randomLines(9, 2000, 12, func(r *rand.Rand, l api.LockLine) {
		p, isAny := randomSplit(r, l)
		if !isAny {
			return
		}
		who := r.IntN(2)
		heard := randomHeard(r, len(l.Slots), [][]int{p}, who)
		surely, perhaps, e := lock.Missing(l, who, heard, 0)
		for most := 1; most <= 6; most++ {
			less, more, f := lock.Missing(l, who, heard, most)
			isLess := areIn(surely, less) && areIn(slices.Concat(less, more), slices.Concat(surely, perhaps))
			if e == api.OK && (!isLess || f != api.OK) {
				t.Fatalf("Missing of %v, %d, %v, %d: %v, %v, %d; with one fewer %v, %v", l, who, heard, most, less, more, f, surely, perhaps)
			}
			if e == api.OK && len(less) < len(surely) {
				fewer++
			}
			surely, perhaps, e = less, more, f
		}
	})
	if fewer < 30 {
		t.Errorf("only %d times less is sure", fewer)
	}
}

// P7.14: what is heard of more strokes fits no more splits, if no more strokes were there in all.
func TestMoreHeard(t *testing.T) {
	fewer := 0
	randomLines(10, 1500, 12, func(r *rand.Rand, l api.LockLine) {
		p, isAny := randomSplit(r, l)
		if !isAny {
			return
		}
		who, most := r.IntN(2), 1+r.IntN(6)
		heard := randomHeard(r, len(l.Slots), [][]int{p}, who)
		slot := r.IntN(len(l.Slots))
		if slices.Contains(heard, slot) {
			return
		}
		more := slices.Sorted(slices.Values(append(slices.Clone(heard), slot)))
		n, e := lock.Least(l, who, heard)
		m, f := lock.Least(l, who, more)
		if f == api.OK && (e != api.OK || n > m+1) {
			t.Fatalf("Least of %v, %d, %v: %d, %d; of %v: %d, %d", l, who, heard, n, e, more, m, f)
		}
		surely, perhaps, e := lock.Missing(l, who, heard, most)
		still, unsure, f := lock.Missing(l, who, more, most-1)
		if f == api.OK && (e != api.OK || !areIn(append(still, slot), surely) || !areIn(perhaps, unsure)) {
			t.Fatalf("Missing of %v, %d, %v, %d: %v, %v, %d; with %d: %v, %v, %d", l, who, heard, most, surely, perhaps, e, slot, still, unsure, f)
		}
		if f == api.OK && len(unsure)+1 < len(perhaps) || e == api.OK && f == api.ErrNone {
			fewer++
		}
		if with, without := manyFit(l, who, more, most-1), manyFit(l, who, heard, most); with > without || (with == 0) != (f == api.ErrNone) {
			t.Fatalf("%v, %d, %v: %d splits fit; with %d: %d", l, who, heard, without, slot, with)
		}
	})
	if fewer < 50 {
		t.Errorf("only %d times fewer splits fit", fewer)
	}
}

// P1: no function panics or goes on for ever, whatever the arguments are.
func TestAnything(t *testing.T) {
	r := rand.New(rand.NewPCG(11, 7))
	odd := []int{math.MinInt, -9, -2, -1, 0, 1, 2, 3, 4, 5, 6, 7, 8, 9, 15, 16, 17, 63, 64, 255, 256, math.MaxInt}
	some := func() int { return odd[r.IntN(len(odd))] }
	list := func(most int) []int {
		var l []int
		for range r.IntN(most) {
			l = append(l, some())
		}
		return l
	}
	for range 20000 {
		l := randomLine(r, 1+r.IntN(6))
		switch r.IntN(8) {
		case 0:
			l.Slots = list(20)
		case 1:
			l.Slots[r.IntN(len(l.Slots))] = some()
		case 2:
			l.Left = some()
		case 3:
			l.Right = some()
		case 4:
			l.Run = some()
		}
		q := question{players: list(8), who: some(), late: some(), lost: some(), part: list(5)}
		if p, isAny := randomSplit(r, randomLine(r, 4)); isAny {
			q.players = p
		}
		for range r.IntN(8) {
			q.sounds = append(q.sounds, list(4))
		}
		isWrong := lock.Check(l) != api.OK
		_, errors := answers(l, q)
		for i, e := range errors {
			if (e == api.ErrLock) != isWrong {
				t.Fatalf("%v, %v: the error %d is %d", l, q, i, e)
			}
		}
	}
}
