package forge_test

import (
	"math"
	"math/rand/v2"
	"slices"
	"testing"

	"saron/api"
	"saron/forge"
)

// The tests of this file hold the package against a search through all melts and all strikers of small books, which takes each definition of the chapter word by word.

// randomBooks calls the test with many valid books, always the same ones.
func randomBooks(seed uint64, many int, test func(r *rand.Rand, b api.ForgeBook)) {
	r := rand.New(rand.NewPCG(seed, 2))
	for range many {
		test(r, randomBook(r))
	}
}

// randomBook makes a book around a true tin and true strikers, so that many books have right melts, and can be true.
func randomBook(r *rand.Rand) api.ForgeBook {
	b := api.ForgeBook{
		Thick: 60 + r.IntN(60), Crack: r.IntN(50), Goal: randomSpan(r, 20, 60, 25),
		Hot: 300 + r.IntN(200), Cool: randomSpan(r, 1, 120, 60), Coal: r.IntN(5),
	}
	b.Least = r.IntN(b.Hot + 1)
	tin := 150 + r.IntN(50)
	b.Tin = to(tin-r.IntN(20), tin+r.IntN(20))
	for range 1 + r.IntN(4) {
		low := tin - 40 + r.IntN(70)
		b.Lots = append(b.Lots, api.ForgeLot{Bars: r.IntN(4), Tin: to(low, low+r.IntN(20))})
	}
	var truth []int
	for range 3 {
		thin := 1 + r.IntN(6)
		truth = append(truth, thin)
		b.Thins = append(b.Thins, to(max(1, thin-r.IntN(3)), thin+r.IntN(3)))
	}
	for range r.IntN(6) {
		blows, err := r.IntN(10), r.IntN(3)
		thick := thickness(b, truth, blows) + r.IntN(2*err+1) - err
		if r.IntN(3) == 0 {
			thick += r.IntN(7) - 3
		}
		b.Looks = append(b.Looks, api.ForgeLook{Blows: blows, Thick: max(0, thick), Err: err})
	}
	return b
}

func randomSpan(r *rand.Rand, low, high, wide int) api.Span {
	at := low + r.IntN(high-low+1)
	return to(at, at+r.IntN(wide))
}

// thickness strikes blow by blow.
func thickness(b api.ForgeBook, truth []int, blows int) int {
	thick := b.Thick
	for blow := range blows {
		thick -= truth[blow%3]
	}
	return thick
}

// allTruths goes through all strikers, and keeps those that no look but those left out belies.
func allTruths(b api.ForgeBook, out []int) [][]int {
	var list [][]int
	for one := b.Thins[0].Low; one <= b.Thins[0].High; one++ {
		for two := b.Thins[1].Low; two <= b.Thins[1].High; two++ {
			for three := b.Thins[2].Low; three <= b.Thins[2].High; three++ {
				truth := []int{one, two, three}
				if fits(b, truth, out) {
					list = append(list, truth)
				}
			}
		}
	}
	return list
}

func fits(b api.ForgeBook, truth []int, out []int) bool {
	for i, look := range b.Looks {
		thick := thickness(b, truth, look.Blows)
		if !slices.Contains(out, i) && (thick > look.Thick+look.Err || thick < look.Thick-look.Err) {
			return false
		}
	}
	return true
}

// allMelts goes through all melts that are right, in their order.
func allMelts(b api.ForgeBook) [][]int {
	lists := [][]int{{}}
	for _, lot := range b.Lots {
		var longer [][]int
		for _, list := range lists {
			for bars := 0; bars <= lot.Bars; bars++ {
				longer = append(longer, append(slices.Clone(list), bars))
			}
		}
		lists = longer
	}
	return slices.DeleteFunc(lists, func(m []int) bool { return !isRightMelt(b, m) })
}

func isRightMelt(b api.ForgeBook, m []int) bool {
	many, low, high := 0, 0, 0
	for lot, bars := range m {
		many += bars
		low += bars * b.Lots[lot].Tin.Low
		high += bars * b.Lots[lot].Tin.High
	}
	return many > 0 && low >= many*b.Tin.Low && high <= many*b.Tin.High
}

func barsOf(m []int) int {
	many := 0
	for _, bars := range m {
		many += bars
	}
	return many
}

func lotsOf(m []int) int {
	return len(m) - len(slices.DeleteFunc(slices.Clone(m), func(bars int) bool { return bars != 0 }))
}

func has(lists [][]int, list []int) bool {
	return slices.ContainsFunc(lists, func(l []int) bool { return slices.Equal(l, list) })
}

// copied returns a book that shares no memory with the given one.
func copied(b api.ForgeBook) api.ForgeBook {
	b.Lots, b.Thins, b.Looks = slices.Clone(b.Lots), slices.Clone(b.Thins), slices.Clone(b.Looks)
	return b
}

// P2.1, P2.2: each melt; that of as few lots as any, of several the first one; the most bars.
func TestAllMelts(t *testing.T) {
	some := 0
	randomBooks(1, 1500, func(r *rand.Rand, b api.ForgeBook) {
		if e := forge.Check(b); e != api.OK {
			t.Fatalf("%v is not valid: %d", b, e)
		}
		melts := allMelts(b)
		for range 10 {
			var m []int
			for _, lot := range b.Lots {
				m = append(m, r.IntN(lot.Bars+3)-1)
			}
			if is, e := forge.IsMelt(b, m); is != has(melts, m) || e != api.OK {
				t.Fatalf("IsMelt of %v, %v: %v, %d", b, m, is, e)
			}
		}
		most := 0
		for many := 1; many <= 24; many++ {
			var want []int
			for _, m := range melts {
				if barsOf(m) == many && (want == nil || lotsOf(m) < lotsOf(want)) {
					want = m
				}
			}
			got, e := forge.Cast(b, many)
			if !slices.Equal(got, want) || (e == api.OK) != (want != nil) {
				t.Fatalf("Cast of %v, %d: %v, %d, not %v", b, many, got, e, want)
			}
			if want != nil {
				most = many
			}
		}
		if got, e := forge.Most(b); got != most || (e == api.OK) != (most > 0) {
			t.Fatalf("Most of %v: %d, %d, not %d", b, got, e, most)
		}
		if most > 2 {
			some++
		}
	})
	if some < 200 {
		t.Errorf("%d books of 1500 have right melts of more than 2 bars", some)
	}
}

// P2.3, P2.9: melts of several discs, if there are any.
func TestAllCasts(t *testing.T) {
	can := 0
	randomBooks(2, 4000, func(r *rand.Rand, b api.ForgeBook) {
		var sizes []int
		for range 1 + r.IntN(4) {
			sizes = append(sizes, 1+r.IntN(3))
		}
		melts, e := forge.Casts(b, sizes)
		if !canCast(b, allMelts(b), sizes) {
			if len(melts) != 0 || e != api.ErrNone {
				t.Fatalf("Casts of %v, %v: %v, %d", b, sizes, melts, e)
			}
			return
		}
		can++
		if e != api.OK {
			t.Fatalf("Casts of %v, %v: %d", b, sizes, e)
		}
		wantCasts(t, "a random book", b, sizes, melts)
	})
	if can < 200 || can > 3800 {
		t.Errorf("%d of 4000 can be cast", can)
	}
}

// canCast goes through all lists of melts of these sizes.
func canCast(b api.ForgeBook, melts [][]int, sizes []int) bool {
	if len(sizes) == 0 {
		return true
	}
	for _, m := range melts {
		after := copied(b)
		enough := barsOf(m) == sizes[0]
		for lot, bars := range m {
			after.Lots[lot].Bars -= bars
			enough = enough && after.Lots[lot].Bars >= 0
		}
		if enough && canCast(after, melts, sizes[1:]) {
			return true
		}
	}
	return false
}

// P2.9: whatever tin each bar has, that of the melt lies within the book's Tin.
func TestTin(t *testing.T) {
	randomBooks(3, 500, func(r *rand.Rand, b api.ForgeBook) {
		for many := 1; many <= 12; many++ {
			m, e := forge.Cast(b, many)
			if e != api.OK {
				continue
			}
			for range 10 {
				tin := 0
				for lot, bars := range m {
					for range bars {
						s := b.Lots[lot].Tin
						tin += []int{s.Low, s.High, s.Low + r.IntN(s.High-s.Low+1)}[r.IntN(3)]
					}
				}
				if tin < many*b.Tin.Low || tin > many*b.Tin.High {
					t.Fatalf("Cast of %v, %d: %v can have %d of tin", b, many, m, tin)
				}
			}
		}
	})
}

// P2.10: with a wider Tin, a narrower lot, a bar more, what was right is right.
func TestMoreMelts(t *testing.T) {
	randomBooks(4, 500, func(r *rand.Rand, b api.ForgeBook) {
		wider := copied(b)
		wider.Tin = to(b.Tin.Low-r.IntN(9), b.Tin.High+r.IntN(9))
		lot := r.IntN(len(b.Lots))
		narrower := copied(b)
		if s := &narrower.Lots[lot].Tin; s.Low < s.High {
			s.Low += r.IntN(2)
			s.High -= r.IntN(s.High - s.Low + 1)
		}
		more := copied(b)
		more.Lots[lot].Bars++
		for _, m := range allMelts(b) {
			for _, x := range []api.ForgeBook{b, wider, narrower, more} {
				if is, e := forge.IsMelt(x, m); !is || e != api.OK {
					t.Fatalf("IsMelt of %v, %v: %v, %d, but in %v", x, m, is, e, b)
				}
			}
		}
	})
}

// ends is the span of the thickness in all truths.
func ends(b api.ForgeBook, truths [][]int, blows int) api.Span {
	span := to(math.MaxInt, math.MinInt)
	for _, truth := range truths {
		thick := thickness(b, truth, blows)
		span = to(min(span.Low, thick), max(span.High, thick))
	}
	return span
}

// P2.4, P2.11: the strikers and the thickness are as they are in all truths; both ends are so.
func TestAllTruths(t *testing.T) {
	can := 0
	randomBooks(5, 1500, func(r *rand.Rand, b api.ForgeBook) {
		truths := allTruths(b, nil)
		for striker := range 3 {
			var want []int
			for _, truth := range truths {
				want = append(want, truth[striker])
			}
			slices.Sort(want)
			want = slices.Compact(want)
			if got, e := forge.Strength(b, striker); !slices.Equal(got, want) || (e == api.OK) != (want != nil) {
				t.Fatalf("Strength of %v, %d: %v, %d, not %v", b, striker, got, e, want)
			}
		}
		for _, blows := range []int{0, 1, 2, 3, 4 + r.IntN(10), r.IntN(301), 300} {
			got, e := forge.Thick(b, blows)
			if len(truths) == 0 {
				if got != (api.Span{}) || e != api.ErrForgeFalse {
					t.Fatalf("Thick of %v, %d: %v, %d", b, blows, got, e)
				}
			} else if got != ends(b, truths, blows) || e != api.OK {
				t.Fatalf("Thick of %v, %d: %v, %d, not %v", b, blows, got, e, ends(b, truths, blows))
			}
		}
		if len(truths) > 0 {
			can++
		}
	})
	if can < 200 || can > 1400 {
		t.Errorf("%d books of 1500 can be true", can)
	}
}

// P2.6, P2.12: the blows that are told, and all fewer ones; those by which the disc is sound, and all more.
func TestAllBlows(t *testing.T) {
	done := 0
	randomBooks(6, 300, func(_ *rand.Rand, b api.ForgeBook) {
		truths := allTruths(b, nil)
		want, sound := -1, -1
		for n := range 301 {
			s := ends(b, truths, n)
			if want < 0 && s.Low >= b.Goal.Low && s.High <= b.Goal.High && s.Low >= b.Crack {
				want = n
			}
			if s.Low >= b.Crack {
				sound = n
			}
		}
		got, e := forge.Blows(b)
		most, f := forge.Sound(b)
		if len(truths) == 0 {
			if got != 0 || most != 0 || e != api.ErrForgeFalse || f != api.ErrForgeFalse {
				t.Fatalf("%v cannot be true: %d, %d, %d, %d", b, got, e, most, f)
			}
			return
		}
		if got != max(0, want) || (e == api.OK) != (want >= 0) || want < 0 && e != api.ErrNone {
			t.Fatalf("Blows of %v: %d, %d, not %d", b, got, e, want)
		}
		if most != max(0, sound) || (f == api.OK) != (sound >= 0) || sound < 0 && f != api.ErrNone {
			t.Fatalf("Sound of %v: %d, %d, not %d", b, most, f, sound)
		}
		if want >= 0 {
			done++
		}
	})
	if done < 30 {
		t.Errorf("%d discs of 300 are surely done", done)
	}
}

// P2.11: a look more never widens what is told; a look that can be wrong by more never narrows it.
func TestMoreLooks(t *testing.T) {
	randomBooks(7, 1000, func(r *rand.Rand, b api.ForgeBook) {
		if len(b.Looks) == 0 {
			return
		}
		at := r.IntN(len(b.Looks))
		fewer, weaker := copied(b), copied(b)
		fewer.Looks = slices.Delete(fewer.Looks, at, at+1)
		weaker.Looks[at].Err += 1 + r.IntN(3)
		for _, wide := range []api.ForgeBook{fewer, weaker} {
			wantWider(t, b, wide, r.IntN(301))
		}
	})
}

// wantWider checks that all that can be in a book can be in the other one.
func wantWider(t *testing.T, b, wide api.ForgeBook, blows int) {
	t.Helper()
	s, e := forge.Thick(b, blows)
	if e != api.OK {
		return
	}
	if w, e := forge.Thick(wide, blows); w.Low > s.Low || w.High < s.High || e != api.OK {
		t.Fatalf("Thick of %v, %d: %v, of %v: %v, %d", b, blows, s, wide, w, e)
	}
	for striker := range 3 {
		some, _ := forge.Strength(b, striker)
		more, _ := forge.Strength(wide, striker)
		for _, thin := range some {
			if !slices.Contains(more, thin) {
				t.Fatalf("Strength of %v, %d: %v, of %v: %v", b, striker, some, wide, more)
			}
		}
	}
}

// P2.5, P2.13: the fewest looks, of several lists the first one.
func TestAllLooks(t *testing.T) {
	many := 0
	randomBooks(8, 1500, func(_ *rand.Rand, b api.ForgeBook) {
		var lists [][]int
		for bits := range 1 << len(b.Looks) {
			var list []int
			for look := range b.Looks {
				if bits>>look&1 == 1 {
					list = append(list, look)
				}
			}
			lists = append(lists, list)
		}
		slices.SortFunc(lists, func(a, b []int) int {
			if len(a) != len(b) {
				return len(a) - len(b)
			}
			return slices.Compare(a, b)
		})
		first := slices.IndexFunc(lists, func(out []int) bool { return len(allTruths(b, out)) > 0 })
		if got, e := forge.Wrong(b); !slices.Equal(got, lists[first]) || e != api.OK {
			t.Fatalf("Wrong of %v: %v, %d, not %v", b, got, e, lists[first])
		}
		if len(lists[first]) > 1 {
			many++
		}
	})
	if many < 20 {
		t.Errorf("%d books of 1500 have more than one look that must be wrong", many)
	}
}

// heatsBy strikes blow by blow, each of which takes what the function says.
func heatsBy(b api.ForgeBook, blows int, takes func() int) int {
	heats, hot := 0, -1
	for range blows {
		if hot < b.Least {
			heats++
			hot = b.Hot
		}
		hot -= takes()
	}
	return heats
}

// P2.7: whatever each blow takes, the heats are between those that are told; both ends are so.
func TestAllHeats(t *testing.T) {
	randomBooks(9, 500, func(r *rand.Rand, b api.ForgeBook) {
		blows := r.IntN(301)
		heats, coal, e := forge.Heats(b, blows)
		low := heatsBy(b, blows, func() int { return b.Cool.Low })
		high := heatsBy(b, blows, func() int { return b.Cool.High })
		if heats != to(low, high) || coal != to(low*b.Coal, high*b.Coal) || e != api.OK {
			t.Fatalf("Heats of %v, %d: %v, %v, %d, not %d to %d", b, blows, heats, coal, e, low, high)
		}
		some := heatsBy(b, blows, func() int { return b.Cool.Low + r.IntN(b.Cool.High-b.Cool.Low+1) })
		if some < heats.Low || some > heats.High {
			t.Fatalf("Heats of %v, %d: %v, but it can be %d", b, blows, heats, some)
		}
	})
}

// P2.14: more blows take no fewer heats; two numbers together no more than both by themselves.
func TestMoreHeats(t *testing.T) {
	randomBooks(10, 1000, func(r *rand.Rand, b api.ForgeBook) {
		one, other := r.IntN(150), r.IntN(151)
		s, _, _ := forge.Heats(b, one)
		o, _, _ := forge.Heats(b, other)
		both, _, e := forge.Heats(b, one+other)
		if both.Low > s.Low+o.Low || both.High > s.High+o.High || e != api.OK {
			t.Fatalf("Heats of %v, %d and %d: %v and %v, but %v, %d", b, one, other, s, o, both, e)
		}
		if both.Low < s.Low || both.High < s.High {
			t.Fatalf("Heats of %v, %d: %v, of %d: %v", b, one, s, one+other, both)
		}
	})
}

// P1: every function ends without a panic, whatever the book is.
func TestAnything(t *testing.T) {
	r := rand.New(rand.NewPCG(11, 2))
	number := func() int {
		some := []int{math.MinInt, math.MinInt + 1, -1000, -1, 0, 1, 2, 3, 4, 7, 8, 20, 21, 24, 50, 300, 1000, 1500, 3000, 1 << 32, math.MaxInt}
		return some[r.IntN(len(some))]
	}
	numbers := func() []int {
		var list []int
		for range r.IntN(6) {
			list = append(list, number())
		}
		return list
	}
	change := func(b *api.ForgeBook) {
		switch r.IntN(7) {
		case 0:
			b.Lots = append(b.Lots, api.ForgeLot{Bars: number(), Tin: to(number(), number())})
		case 1:
			b.Tin = to(number(), number())
		case 2:
			b.Thick, b.Crack, b.Goal = number(), number(), to(number(), number())
		case 3:
			b.Thins = append(b.Thins[:r.IntN(3)], to(number(), number()))
		case 4:
			b.Hot, b.Least = number(), number()
		case 5:
			b.Cool, b.Coal = to(number(), number()), number()
		case 6:
			b.Looks = append(b.Looks, api.ForgeLook{Blows: number(), Thick: number(), Err: number()})
		}
	}
	for range 10000 {
		b := randomBook(r)
		for range r.IntN(3) {
			change(&b)
		}
		answers(b, question{bars: numbers(), sizes: numbers(), many: number(), striker: number(), blows: number()})
		answers(b, question{bars: numbers(), sizes: numbers(), many: r.IntN(25), striker: r.IntN(3), blows: r.IntN(301)})
	}
}

// P1: the greatest books are answered.
func TestGreat(t *testing.T) {
	b := great()
	b.Looks = nil
	wantErrors(t, "no looks", b, question{bars: []int{1, 1, 1, 1}, sizes: []int{6, 6, 6, 6}, many: 12, striker: 1, blows: 300}, make([]api.Errno, 10))
	// All bars together have a little too much tin, so that all melts are tried.
	for i := range b.Lots {
		b.Lots[i].Tin = to(500, 500+i)
	}
	b.Tin = to(500, 501)
	if melts, e := forge.Casts(b, []int{6, 6, 6, 6}); len(melts) != 0 || e != api.ErrNone {
		t.Errorf("Casts of too much tin: %v, %d", melts, e)
	}
}
