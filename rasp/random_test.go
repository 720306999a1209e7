package rasp_test

import (
	"math"
	"math/rand/v2"
	"reflect"
	"slices"
	"testing"

	"saron/api"
	"saron/rasp"
)

// The tests of this file hold the package against a table of all states of random shops, that is filled from no metal on and takes each definition of the chapter word by word.

// randomShops calls the test with many valid shops, always the same ones.
func randomShops(seed uint64, many int, test func(r *rand.Rand, s api.RaspShop)) {
	r := rand.New(rand.NewPCG(seed, 3))
	for range many {
		test(r, randomShop(r))
	}
}

// randomShop makes a shop whose tools mostly work both ways, so that many keys may not be spoilt.
func randomShop(r *rand.Rand) api.RaspShop {
	var s api.RaspShop
	for i := range 1 + r.IntN(4) {
		t := api.RaspTool{Move: randomSpan(r, 0, 9, 4), Cost: 1 + r.IntN(3)}
		if r.IntN(8) == 0 {
			t = api.RaspTool{Move: randomSpan(r, -30, 20, 10), Cost: 1 + r.IntN(10)}
		}
		if i%2 == 0 {
			t.Move = to(-t.Move.High, -t.Move.Low)
		}
		s.Tools = append(s.Tools, t)
	}
	s.Fine = randomSpan(r, -4, 1, 6)
	if r.IntN(6) == 0 {
		s.Fine = randomSpan(r, -60, 55, 6)
	}
	for range r.IntN(7) {
		s.Keys = append(s.Keys, api.RaspKey{Now: randomSpan(r, s.Fine.Low-10, s.Fine.High+6, 5), Metal: r.IntN(31)})
	}
	for i := range s.Keys {
		now := &s.Keys[i].Now
		*now = to(max(-60, min(60, now.Low)), max(-60, min(60, now.High)))
	}
	return s
}

func randomSpan(r *rand.Rand, low, high, wide int) api.Span {
	at := low + r.IntN(high-low+1)
	return to(at, at+r.IntN(wide))
}

// randomState is mostly near to where a key is fine.
func randomState(r *rand.Rand, s api.RaspShop) (off, metal int) {
	off = s.Fine.Low - 15 + r.IntN(s.Fine.High-s.Fine.Low+31)
	if off < -60 || off > 60 || r.IntN(4) == 0 {
		off = r.IntN(121) - 60
	}
	return off, r.IntN(31)
}

// entry is what is so of one state: -1 stands for no strokes, and for no tool.
type entry struct{ worst, best, tool int }

type table [31][121]entry

func (t *table) at(off, metal int) entry {
	if off < -60 || off > 60 {
		return entry{-1, -1, -1}
	}
	return t[metal][off+60]
}

func tableOf(s api.RaspShop) *table {
	var t table
	for metal := range t {
		for off := -60; off <= 60; off++ {
			t[metal][off+60] = t.entryOf(s, off, metal)
		}
	}
	return &t
}

func (t *table) entryOf(s api.RaspShop, off, metal int) entry {
	if off >= s.Fine.Low && off <= s.Fine.High {
		return entry{0, 0, -1}
	}
	e := entry{-1, -1, -1}
	for i, tool := range s.Tools {
		if tool.Cost > metal {
			continue
		}
		high, low := 0, -1
		for move := tool.Move.Low; move <= tool.Move.High; move++ {
			next := t.at(off+move, metal-tool.Cost)
			if next.worst < 0 || high < 0 {
				high = -1
			} else {
				high = max(high, next.worst)
			}
			if next.best >= 0 && (low < 0 || next.best < low) {
				low = next.best
			}
		}
		if high >= 0 && (e.worst < 0 || high+1 < e.worst) {
			e.worst, e.tool = high+1, i
		}
		if low >= 0 && (e.best < 0 || low+1 < e.best) {
			e.best = low + 1
		}
	}
	return e
}

// wanted is what a function returns for a number of strokes, where -1 stands for none.
func wanted(strokes int) (int, api.Errno) {
	if strokes < 0 {
		return 0, api.ErrNone
	}
	return strokes, api.OK
}

// P3.1, P3.3, P3.4: each state; the plan, the metal that is enough, the strokes at best.
func TestAllStates(t *testing.T) {
	many, spoilt := 0, 0
	randomShops(1, 120, func(r *rand.Rand, s api.RaspShop) {
		if e := rasp.Check(s); e != api.OK {
			t.Fatalf("%v is not valid: %d", s, e)
		}
		all := tableOf(s)
		for range 15 {
			off, metal := randomState(r, s)
			wantState(t, s, all, off, metal)
			switch worst := all.at(off, metal).worst; {
			case worst > 2:
				many++
			case worst < 0:
				spoilt++
			}
		}
		for _, off := range []int{-60, 60} {
			wantState(t, s, all, off, 30)
		}
	})
	if many < 150 || spoilt < 150 {
		t.Errorf("%d states of 1800 take more than 2 strokes, %d may be spoilt", many, spoilt)
	}
}

func wantState(t *testing.T, s api.RaspShop, all *table, off, metal int) {
	t.Helper()
	want := all.at(off, metal)
	strokes, e := wanted(want.worst)
	first := want.tool
	if e != api.OK {
		first = 0
	}
	if tool, n, f := rasp.Next(s, off, metal); tool != first || n != strokes || f != e {
		t.Fatalf("Next of %v, %d, %d: %d, %d, %d, not %d, %d, %d", s, off, metal, tool, n, f, first, strokes, e)
	}
	strokes, e = wanted(want.best)
	if n, f := rasp.Lucky(s, off, metal); n != strokes || f != e {
		t.Fatalf("Lucky of %v, %d, %d: %d, %d, not %d, %d", s, off, metal, n, f, strokes, e)
	}
	enough := -1
	for metal := 30; metal >= 0; metal-- {
		if all.at(off, metal).worst >= 0 {
			enough = metal
		}
	}
	need, e := wanted(enough)
	if n, f := rasp.Need(s, off); n != need || f != e {
		t.Fatalf("Need of %v, %d: %d, %d, not %d, %d", s, off, n, f, need, e)
	}
}

// P3.2: the strokes of each key, those that may be spoilt, and all together.
func TestAllKeys(t *testing.T) {
	sound := 0
	randomShops(2, 500, func(_ *rand.Rand, s api.RaspShop) {
		all := tableOf(s)
		var spoilt []int
		total := 0
		for i, k := range s.Keys {
			most := 0
			for off := k.Now.Low; off <= k.Now.High; off++ {
				worst := all.at(off, k.Metal).worst
				if worst < 0 || most < 0 {
					most = -1
				} else {
					most = max(most, worst)
				}
			}
			if most < 0 {
				spoilt = append(spoilt, i)
			}
			total += most
			want, e := wanted(most)
			if n, f := rasp.Strokes(s, i); n != want || f != e {
				t.Fatalf("Strokes of %v, %d: %d, %d, not %d, %d", s, i, n, f, want, e)
			}
		}
		if list, e := rasp.Spoilt(s); !slices.Equal(list, spoilt) || e != api.OK {
			t.Fatalf("Spoilt of %v: %v, %d, not %v", s, list, e, spoilt)
		}
		want, e := total, api.OK
		if spoilt != nil {
			want, e = 0, api.ErrNone
		}
		if n, f := rasp.Total(s); n != want || f != e {
			t.Fatalf("Total of %v: %d, %d, not %d, %d", s, n, f, want, e)
		}
		if spoilt == nil && total > 4 {
			sound++
		}
	})
	if sound < 25 {
		t.Errorf("%d shops of 500 have keys that take strokes, and spoil none", sound)
	}
}

// played is what the plan does with a key, if its strokes do what the chooser says.
type played struct{ moves, tools, heard []int }

// follow follows Next until the key is fine, and checks the metal.
func follow(t *testing.T, s api.RaspShop, off, metal int, choose func(off, metal int, tool api.RaspTool) int) played {
	t.Helper()
	p := played{heard: []int{off}}
	for {
		tool, _, e := rasp.Next(s, off, metal)
		if e != api.OK {
			t.Fatalf("%v: the plan leads to %d with %d: %d", s, off, metal, e)
		}
		if tool < 0 {
			break
		}
		move := choose(off, metal, s.Tools[tool])
		off, metal = off+move, metal-s.Tools[tool].Cost
		if metal < 0 {
			t.Fatalf("%v: the plan takes more metal than there is: %v", s, p)
		}
		p.moves, p.tools, p.heard = append(p.moves, move), append(p.tools, tool), append(p.heard, off)
	}
	if off < s.Fine.Low || off > s.Fine.High {
		t.Fatalf("%v: the plan ends at %d", s, off)
	}
	return p
}

// wantPlayed checks Play and Told of what was done (P3.5, P3.13).
func wantPlayed(t *testing.T, s api.RaspShop, key int, p played) {
	t.Helper()
	off := p.heard[0]
	tools, end, e := rasp.Play(s, key, off, p.moves)
	if !slices.Equal(tools, p.tools) || end != p.heard[len(p.moves)] || e != api.OK {
		t.Fatalf("Play of %v, %d, %d, %v: %v, %d, %d, not %v", s, key, off, p.moves, tools, end, e, p.tools)
	}
	told, e := rasp.Told(s, p.heard)
	if len(told) != len(tools) || e != api.OK {
		t.Fatalf("Told of %v, %v: %v, %d", s, p.heard, told, e)
	}
	for i, can := range told {
		if !slices.Contains(can, tools[i]) {
			t.Fatalf("Told of %v, %v: %v, but the plan takes %v", s, p.heard, told, tools)
		}
	}
}

// play does move by move what the plan of the table says.
func (t *table) play(s api.RaspShop, key, off int, moves []int) (tools []int, end int, e api.Errno) {
	metal := s.Keys[key].Metal
	if t.at(off, metal).worst < 0 {
		return nil, 0, api.ErrNone
	}
	for tool := t.at(off, metal).tool; tool >= 0; tool = t.at(off, metal).tool {
		m := s.Tools[tool].Move
		if len(tools) == len(moves) || moves[len(tools)] < m.Low || moves[len(tools)] > m.High {
			return nil, 0, api.ErrRaspMove
		}
		off, metal = off+moves[len(tools)], metal-s.Tools[tool].Cost
		tools = append(tools, tool)
	}
	if len(tools) < len(moves) {
		return nil, 0, api.ErrRaspMove
	}
	return tools, off, api.OK
}

// P3.5: moves that are not always such as the strokes can do, or as many.
func TestAllMoves(t *testing.T) {
	count := map[api.Errno]int{}
	randomShops(11, 300, func(r *rand.Rand, s api.RaspShop) {
		all := tableOf(s)
		for key, k := range s.Keys {
			off := k.Now.Low + r.IntN(k.Now.High-k.Now.Low+1)
			var moves []int
			for at, metal := off, k.Metal; all.at(at, metal).tool >= 0 && r.IntN(15) > 0; {
				tool := s.Tools[all.at(at, metal).tool]
				move := tool.Move.Low + r.IntN(tool.Move.High-tool.Move.Low+1)
				if r.IntN(15) == 0 {
					move += r.IntN(7) - 3
				}
				moves = append(moves, move)
				at, metal = at+move, metal-tool.Cost
			}
			if r.IntN(10) == 0 {
				moves = append(moves, r.IntN(7)-3)
			}
			want, wantEnd, e := all.play(s, key, off, moves)
			if tools, end, f := rasp.Play(s, key, off, moves); !slices.Equal(tools, want) || end != wantEnd || f != e {
				t.Fatalf("Play of %v, %d, %d, %v: %v, %d, %d, not %v, %d, %d", s, key, off, moves, tools, end, f, want, wantEnd, e)
			}
			count[e]++
		}
	})
	if count[api.OK] < 50 || count[api.ErrNone] < 50 || count[api.ErrRaspMove] < 50 {
		t.Errorf("the errors are %v", count)
	}
}

// P3.5, P3.8, P3.13: whatever the strokes truly do, the plan ends in time; there is a way to take just as many strokes.
func TestAllPlays(t *testing.T) {
	long := 0
	randomShops(3, 150, func(r *rand.Rand, s api.RaspShop) {
		all := tableOf(s)
		for key, k := range s.Keys {
			off := k.Now.Low + r.IntN(k.Now.High-k.Now.Low+1)
			_, want, e := rasp.Next(s, off, k.Metal)
			if e != api.OK {
				if _, _, f := rasp.Play(s, key, off, nil); f != api.ErrNone {
					t.Fatalf("Play of %v, %d, %d: %d", s, key, off, f)
				}
				continue
			}
			for range 3 {
				p := follow(t, s, off, k.Metal, func(_, _ int, tool api.RaspTool) int {
					return tool.Move.Low + r.IntN(tool.Move.High-tool.Move.Low+1)
				})
				if len(p.moves) > want {
					t.Fatalf("%v: %d with %d takes %d strokes, not %d: %v", s, off, k.Metal, len(p.moves), want, p)
				}
				wantPlayed(t, s, key, p)
			}
			p := follow(t, s, off, k.Metal, func(off, metal int, tool api.RaspTool) int {
				move := tool.Move.Low
				for m := move; m <= tool.Move.High; m++ {
					if all.at(off+m, metal-tool.Cost).worst > all.at(off+move, metal-tool.Cost).worst {
						move = m
					}
				}
				return move
			})
			if len(p.moves) != want {
				t.Fatalf("%v: %d with %d takes %d strokes at the worst, not %d: %v", s, off, k.Metal, len(p.moves), want, p)
			}
			wantPlayed(t, s, key, p)
			if want > 2 {
				long++
			}
		}
	})
	if long < 25 {
		t.Errorf("%d keys take more than 2 strokes", long)
	}
}

// P3.9: whatever tool is taken first, some number of its Move leads to where as many strokes are needed, less one, or more.
func TestNoPlanIsBetter(t *testing.T) {
	randomShops(4, 150, func(r *rand.Rand, s api.RaspShop) {
		for range 5 {
			off, metal := randomState(r, s)
			_, strokes, e := rasp.Next(s, off, metal)
			if e != api.OK || strokes == 0 {
				continue
			}
			for _, tool := range s.Tools {
				if tool.Cost <= metal && !canLead(s, tool, off, metal-tool.Cost, strokes-1) {
					t.Fatalf("%v: %d with %d takes less than %d strokes by %v", s, off, metal, strokes, tool)
				}
			}
		}
	})
}

// canLead reports whether a tool can lead to where so many strokes are needed, or more, or the key may be spoilt.
func canLead(s api.RaspShop, tool api.RaspTool, off, left, strokes int) bool {
	for move := tool.Move.Low; move <= tool.Move.High; move++ {
		// Beyond 60 Next returns an error, too.
		if _, n, e := rasp.Next(s, off+move, left); e != api.OK || n >= strokes {
			return true
		}
	}
	return false
}

// P3.10: more metal, a wider Fine, a narrower Move, a smaller Cost, a tool more never take more strokes.
func TestMore(t *testing.T) {
	fewer := 0
	randomShops(5, 100, func(r *rand.Rand, s api.RaspShop) {
		wider, narrower, cheaper, more := copied(s), copied(s), copied(s), copied(s)
		wider.Fine = to(max(-60, s.Fine.Low-r.IntN(2)), min(60, s.Fine.High+r.IntN(2)))
		if m := &narrower.Tools[r.IntN(len(s.Tools))].Move; m.Low < m.High {
			m.Low += r.IntN(2)
			m.High -= r.IntN(m.High - m.Low + 1)
		}
		if c := &cheaper.Tools[r.IntN(len(s.Tools))].Cost; *c > 1 {
			*c--
		}
		if len(s.Tools) < 4 {
			more.Tools = append(more.Tools, api.RaspTool{Move: randomSpan(r, -9, 5, 4), Cost: 1 + r.IntN(3)})
		}
		for range 10 {
			off, metal := randomState(r, s)
			_, strokes, e := rasp.Next(s, off, metal)
			if e != api.OK {
				continue
			}
			for _, x := range []api.RaspShop{s, wider, narrower, cheaper, more} {
				_, n, e := rasp.Next(x, off, min(30, metal+r.IntN(3)))
				if n > strokes || e != api.OK {
					t.Fatalf("%d with %d: %v takes %d, %v takes %d, %d", off, metal, s, strokes, x, n, e)
				}
				if n < strokes {
					fewer++
				}
			}
		}
	})
	if fewer < 25 {
		t.Errorf("%d states take fewer strokes", fewer)
	}
}

// P3.3, P3.10: with the metal that is enough a key may not be spoilt, with less it may.
func TestEnough(t *testing.T) {
	randomShops(6, 100, func(r *rand.Rand, s api.RaspShop) {
		off, _ := randomState(r, s)
		need, e := rasp.Need(s, off)
		for metal := range 31 {
			_, _, f := rasp.Next(s, off, metal)
			if isEnough := e == api.OK && metal >= need; isEnough != (f == api.OK) {
				t.Fatalf("Need of %v, %d: %d, %d, but Next with %d: %d", s, off, need, e, metal, f)
			}
		}
	})
}

// P3.11: at best there are never more strokes than at the worst; as many, if each stroke does just one thing.
func TestAtBest(t *testing.T) {
	sure := 0
	randomShops(7, 100, func(r *rand.Rand, s api.RaspShop) {
		just := copied(s)
		for i := range just.Tools {
			just.Tools[i].Move.High = just.Tools[i].Move.Low
		}
		for range 10 {
			off, metal := randomState(r, s)
			_, worst, e := rasp.Next(s, off, metal)
			best, f := rasp.Lucky(s, off, metal)
			if e == api.OK && (best > worst || f != api.OK) {
				t.Fatalf("%v: %d with %d takes %d at the worst, %d, %d at best", s, off, metal, worst, best, f)
			}
			_, worst, e = rasp.Next(just, off, metal)
			best, f = rasp.Lucky(just, off, metal)
			if best != worst || e != f {
				t.Fatalf("%v: %d with %d takes %d, %d at the worst, %d, %d at best", just, off, metal, worst, e, best, f)
			}
			if worst > 1 {
				sure++
			}
		}
	})
	if sure < 50 {
		t.Errorf("%d states of 1000 take more than a stroke that does just one thing", sure)
	}
}

func turnedSpan(s api.Span) api.Span { return to(-s.High, -s.Low) }

func turnedList(list []int) []int {
	var turned []int
	for _, n := range list {
		turned = append(turned, -n)
	}
	return turned
}

func turnedShop(s api.RaspShop) api.RaspShop {
	s = copied(s)
	s.Fine = turnedSpan(s.Fine)
	for i := range s.Tools {
		s.Tools[i].Move = turnedSpan(s.Tools[i].Move)
	}
	for i := range s.Keys {
		s.Keys[i].Now = turnedSpan(s.Keys[i].Now)
	}
	return s
}

// P3.12: turned round, nothing changes.
func TestTurned(t *testing.T) {
	randomShops(8, 150, func(r *rand.Rand, s api.RaspShop) {
		if len(s.Keys) == 0 {
			return
		}
		q := question{key: r.IntN(len(s.Keys))}
		q.off, q.metal = randomState(r, s)
		k := s.Keys[q.key]
		q.now = k.Now.Low + r.IntN(k.Now.High-k.Now.Low+1)
		if _, _, e := rasp.Next(s, q.now, k.Metal); e == api.OK {
			p := follow(t, s, q.now, k.Metal, func(_, _ int, tool api.RaspTool) int { return tool.Move.Low })
			q.moves, q.heard = p.moves, p.heard
		}
		results, errors := answers(s, q)
		turned := q
		turned.off, turned.now, turned.moves, turned.heard = -q.off, -q.now, turnedList(q.moves), turnedList(q.heard)
		others, otherErrors := answers(turnedShop(s), turned)
		end := len(others) - 1
		others[end] = -others[end].(int)
		if !reflect.DeepEqual(results, others) || !slices.Equal(errors, otherErrors) {
			t.Fatalf("%v, %v: %v, %v; turned: %v, %v", s, q, results, errors, others, otherErrors)
		}
	})
}

// P3.6: the tools that can have done each stroke.
func TestAllTold(t *testing.T) {
	none := 0
	randomShops(9, 2000, func(r *rand.Rand, s api.RaspShop) {
		heard := []int{r.IntN(121) - 60}
		for range r.IntN(5) {
			m := s.Tools[r.IntN(len(s.Tools))].Move
			next := heard[len(heard)-1] + m.Low + r.IntN(m.High-m.Low+1)
			if r.IntN(10) == 0 {
				next++
			}
			heard = append(heard, max(-60, min(60, next)))
		}
		var want [][]int
		e := api.OK
		for i := 1; i < len(heard); i++ {
			var tools []int
			for tool, x := range s.Tools {
				if heard[i]-heard[i-1] >= x.Move.Low && heard[i]-heard[i-1] <= x.Move.High {
					tools = append(tools, tool)
				}
			}
			if tools == nil {
				e = api.ErrNone
			}
			want = append(want, tools)
		}
		if e != api.OK {
			want = nil
			none++
		}
		if got, f := rasp.Told(s, heard); !slices.EqualFunc(got, want, slices.Equal) || f != e {
			t.Fatalf("Told of %v, %v: %v, %d, not %v, %d", s, heard, got, f, want, e)
		}
	})
	if none < 100 || none > 1900 {
		t.Errorf("%d of 2000 cannot be told", none)
	}
}

// P1: every function ends without a panic, whatever the shop is.
func TestAnything(t *testing.T) {
	r := rand.New(rand.NewPCG(10, 3))
	number := func() int {
		some := []int{math.MinInt, math.MinInt + 1, -1000, -61, -60, -31, -30, -3, -1, 0, 1, 2, 3, 4, 6, 7, 10, 11, 30, 31, 60, 61, 1 << 32, math.MaxInt}
		return some[r.IntN(len(some))]
	}
	numbers := func() []int {
		var list []int
		for range r.IntN(6) {
			list = append(list, number())
		}
		return list
	}
	change := func(s *api.RaspShop) {
		switch r.IntN(3) {
		case 0:
			s.Tools = append(s.Tools[:r.IntN(len(s.Tools)+1)], tool(number(), number(), number()))
		case 1:
			s.Fine = to(number(), number())
		case 2:
			s.Keys = append(s.Keys, key(number(), number(), number()))
		}
	}
	for range 1000 {
		s := randomShop(r)
		for range r.IntN(3) {
			change(&s)
		}
		answers(s, question{number(), number(), number(), number(), numbers(), numbers()})
		answers(s, question{r.IntN(121) - 60, r.IntN(31), r.IntN(6), r.IntN(30) - 15, numbers(), numbers()})
	}
}

// P1: the greatest shops are answered, and lists that are far too long.
func TestGreat(t *testing.T) {
	s := great()
	q := question{off: 60, metal: 30, now: 60}
	wantErrors(t, "nobody knows what a stroke does", s, q, [8]api.Errno{api.ErrNone, api.ErrNone, 0, api.ErrNone, api.ErrNone, 0, api.ErrNone, api.ErrRaspAsk})
	if list, e := rasp.Spoilt(s); !slices.Equal(list, []int{0, 1, 2, 3, 4, 5}) || e != api.OK {
		t.Errorf("Spoilt of the greatest shop: %v, %d", list, e)
	}
	s.Fine = to(-30, 30)
	s.Tools = []api.RaspTool{tool(-30, 0, 1), tool(0, 30, 1), tool(-30, -1, 1), tool(1, 30, 1)}
	if n, e := rasp.Total(s); n != 180 || e != api.OK {
		t.Errorf("Total of the greatest shop: %d, %d", n, e)
	}
	long := make([]int, 1<<20)
	wantErrors(t, "long lists", s, question{moves: long, heard: long}, [8]api.Errno{6: api.ErrRaspMove, 7: api.ErrRaspAsk})
	s.Tools = make([]api.RaspTool, 1<<20)
	if e := rasp.Check(s); e != api.ErrRasp {
		t.Errorf("a million tools: %d", e)
	}
}
