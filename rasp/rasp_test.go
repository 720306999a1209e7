package rasp_test

import (
	"math"
	"reflect"
	"slices"
	"testing"

	"saron/api"
	"saron/rasp"
)

func to(low, high int) api.Span { return api.Span{Low: low, High: high} }

func tool(low, high, cost int) api.RaspTool { return api.RaspTool{Move: to(low, high), Cost: cost} }

func key(low, high, metal int) api.RaspKey { return api.RaspKey{Now: to(low, high), Metal: metal} }

// example is the shop of the chapter's examples.
func example() api.RaspShop {
	return api.RaspShop{
		Tools: []api.RaspTool{tool(-6, -4, 2), tool(2, 3, 1)},
		Fine:  to(-2, 2),
		Keys:  []api.RaspKey{key(5, 9, 6), key(-7, -5, 3), key(20, 21, 6)},
	}
}

// with returns the shop of the examples after a change.
func with(change func(s *api.RaspShop)) api.RaspShop {
	s := example()
	change(&s)
	return s
}

// shop has no keys.
func shop(fine api.Span, tools ...api.RaspTool) api.RaspShop {
	return api.RaspShop{Fine: fine, Tools: tools}
}

// safe is the shop of the examples without the key that may be spoilt.
func safe() api.RaspShop { return with(func(s *api.RaspShop) { s.Keys = s.Keys[:2] }) }

// great is a shop as great as can be.
func great() api.RaspShop {
	full, wide := key(-60, 60, 30), tool(-30, 30, 1)
	return api.RaspShop{
		Tools: []api.RaspTool{wide, wide, wide, wide}, Fine: to(0, 0),
		Keys: []api.RaspKey{full, full, full, full, full, full},
	}
}

// small is a shop as small as can be.
func small() api.RaspShop { return shop(to(0, 0), tool(0, 0, 1)) }

func validShops() map[string]api.RaspShop {
	return map[string]api.RaspShop{
		"the example":        example(),
		"as great as can be": great(),
		"as small as can be": small(),
		"a move to 30":       shop(to(0, 0), tool(30, 30, 1)),
		"a move to -30":      shop(to(0, 0), tool(-30, -30, 1)),
		"a cost of 10":       shop(to(0, 0), tool(1, 1, 10)),
		"fine at 60":         shop(to(60, 60), tool(1, 1, 1)),
		"fine at -60":        shop(to(-60, -60), tool(1, 1, 1)),
		"all is fine":        shop(to(-60, 60), tool(1, 1, 1)),
		"a key at 60":        with(func(s *api.RaspShop) { s.Keys[0] = key(60, 60, 0) }),
		"a key at -60":       with(func(s *api.RaspShop) { s.Keys[0] = key(-60, -60, 30) }),
		"the same keys":      with(func(s *api.RaspShop) { s.Keys[0] = s.Keys[1] }),
	}
}

func wrongShops() map[string]api.RaspShop {
	shops := map[string]api.RaspShop{"nothing": {}}
	for name, change := range map[string]func(s *api.RaspShop){
		"no tool":                        func(s *api.RaspShop) { s.Tools = nil },
		"five tools":                     func(s *api.RaspShop) { s.Tools = slices.Repeat(s.Tools[:1], 5) },
		"a move below -30":               func(s *api.RaspShop) { s.Tools[0].Move = to(-31, -4) },
		"a move above 30":                func(s *api.RaspShop) { s.Tools[1].Move = to(2, 31) },
		"a move turned":                  func(s *api.RaspShop) { s.Tools[1].Move = to(3, 2) },
		"a cost of 0":                    func(s *api.RaspShop) { s.Tools[0].Cost = 0 },
		"a cost below 0":                 func(s *api.RaspShop) { s.Tools[1].Cost = -1 },
		"a cost above 10":                func(s *api.RaspShop) { s.Tools[1].Cost = 11 },
		"fine below -60":                 func(s *api.RaspShop) { s.Fine = to(-61, 2) },
		"fine above 60":                  func(s *api.RaspShop) { s.Fine = to(-2, 61) },
		"fine turned":                    func(s *api.RaspShop) { s.Fine = to(2, -2) },
		"seven keys":                     func(s *api.RaspShop) { s.Keys = slices.Repeat(s.Keys[:1], 7) },
		"a key below -60":                func(s *api.RaspShop) { s.Keys[1].Now = to(-61, -5) },
		"a key above 60":                 func(s *api.RaspShop) { s.Keys[2].Now = to(20, 61) },
		"a key turned":                   func(s *api.RaspShop) { s.Keys[0].Now = to(9, 5) },
		"metal below 0":                  func(s *api.RaspShop) { s.Keys[0].Metal = -1 },
		"metal above 30":                 func(s *api.RaspShop) { s.Keys[2].Metal = 31 },
		"numbers that are far too great": func(s *api.RaspShop) { s.Keys[0].Now.High = math.MaxInt },
		"numbers that are far too small": func(s *api.RaspShop) { s.Tools[0].Move.Low = math.MinInt },
	} {
		shops[name] = with(change)
	}
	return shops
}

// question is what the functions are asked of a shop; now is what the key is off that is played.
type question struct {
	off, metal, key, now int
	moves, heard         []int
}

func ordinary() question {
	return question{off: 7, metal: 6, key: 0, now: 7, moves: []int{-4, -6, 2}, heard: []int{7, 3, -3, -1}}
}

// asking returns the ordinary question after a change.
func asking(change func(q *question)) question {
	q := ordinary()
	change(&q)
	return q
}

// answers returns what each function says of a shop, and the error of it, in the order of the chapter.
func answers(s api.RaspShop, q question) ([]any, []api.Errno) {
	tool, strokes, e1 := rasp.Next(s, q.off, q.metal)
	most, e2 := rasp.Strokes(s, q.key)
	spoilt, e3 := rasp.Spoilt(s)
	total, e4 := rasp.Total(s)
	need, e5 := rasp.Need(s, q.off)
	lucky, e6 := rasp.Lucky(s, q.off, q.metal)
	tools, end, e7 := rasp.Play(s, q.key, q.now, q.moves)
	told, e8 := rasp.Told(s, q.heard)
	return []any{[2]int{tool, strokes}, most, spoilt, total, need, lucky, tools, told, end},
		[]api.Errno{e1, e2, e3, e4, e5, e6, e7, e8, e7}
}

// wantErrors checks the errors of all functions, and that what comes with an error is zero (R2).
func wantErrors(t *testing.T, name string, s api.RaspShop, q question, want [8]api.Errno) {
	t.Helper()
	results, errors := answers(s, q)
	if [8]api.Errno(errors) != want {
		t.Errorf("%s: the errors are %v, not %v", name, errors[:8], want)
	}
	for i, r := range results {
		v := reflect.ValueOf(r)
		empty := v.IsZero() || v.Kind() == reflect.Slice && v.Len() == 0
		if errors[i] != api.OK && !empty {
			t.Errorf("%s: the result %d comes with an error: %v", name, i, r)
		}
	}
}

// P3.1: what is valid.
func TestCheck(t *testing.T) {
	for name, s := range validShops() {
		if e := rasp.Check(s); e != api.OK {
			t.Errorf("%s: %d", name, e)
		}
	}
	for name, s := range wrongShops() {
		if e := rasp.Check(s); e != api.ErrRasp {
			t.Errorf("%s: %d", name, e)
		}
	}
}

// P3.1 to P3.6, R1, R2: the error that is named first, and nothing else with it.
func TestErrors(t *testing.T) {
	const bad, ask, none, no = api.ErrRasp, api.ErrRaspAsk, api.ErrNone, api.ErrRaspMove
	worst := question{off: 61, metal: -1, key: 99, now: math.MaxInt}
	for name, s := range wrongShops() {
		wantErrors(t, name, s, worst, [8]api.Errno{bad, bad, bad, bad, bad, bad, bad, bad})
		wantErrors(t, name, s, ordinary(), [8]api.Errno{bad, bad, bad, bad, bad, bad, bad, bad})
	}
	wantErrors(t, "the safe keys", safe(), ordinary(), [8]api.Errno{})
	wantErrors(t, "the example", example(), ordinary(), [8]api.Errno{0, 0, 0, none, 0, 0, 0, 0})
	wantErrors(t, "all that is wrong", safe(), worst, [8]api.Errno{ask, ask, 0, 0, ask, ask, ask, ask})
	for _, off := range []int{-61, 61, math.MinInt, math.MaxInt} {
		q := asking(func(q *question) { q.off = off })
		wantErrors(t, "no such off", safe(), q, [8]api.Errno{ask, 0, 0, 0, ask, ask, 0, 0})
		q = asking(func(q *question) { q.heard = []int{7, off, 3} })
		wantErrors(t, "nothing that can be heard", safe(), q, [8]api.Errno{0, 0, 0, 0, 0, 0, 0, ask})
	}
	for _, metal := range []int{-1, 31, math.MinInt, math.MaxInt} {
		q := asking(func(q *question) { q.metal = metal })
		wantErrors(t, "no such metal", safe(), q, [8]api.Errno{ask, 0, 0, 0, 0, ask, 0, 0})
		q.off = 0
		wantErrors(t, "no such metal, but fine", safe(), q, [8]api.Errno{ask, 0, 0, 0, 0, ask, 0, 0})
	}
	for _, key := range []int{-1, 2, math.MinInt, math.MaxInt} {
		q := asking(func(q *question) { q.key = key })
		wantErrors(t, "no such key", safe(), q, [8]api.Errno{0, ask, 0, 0, 0, 0, ask, 0})
	}
	for _, now := range []int{4, 10, -7, math.MinInt, math.MaxInt} {
		q := asking(func(q *question) { q.now = now })
		wantErrors(t, "not within Now", safe(), q, [8]api.Errno{0, 0, 0, 0, 0, 0, ask, 0})
	}
	spoilt := asking(func(q *question) { q.key, q.now, q.off, q.heard = 2, 20, 21, []int{7, 8} })
	wantErrors(t, "a key that may be spoilt", example(), spoilt, [8]api.Errno{none, none, 0, none, 0, none, none, none})
	spoilt.now, spoilt.moves = 19, nil
	wantErrors(t, "the same, not within Now", example(), spoilt, [8]api.Errno{none, none, 0, none, 0, none, ask, none})
	spoilt.heard = []int{7, 8, 61}
	wantErrors(t, "the same, what is not heard", example(), spoilt, [8]api.Errno{none, none, 0, none, 0, none, ask, ask})
	for _, moves := range [][]int{nil, {-4, -6}, {-4, -6, 2, 2}, {-3}, {math.MinInt}, {-4, math.MaxInt, 2}} {
		q := asking(func(q *question) { q.moves = moves })
		wantErrors(t, "no such moves", safe(), q, [8]api.Errno{0, 0, 0, 0, 0, 0, no, 0})
	}
	wantErrors(t, "no keys", small(), ordinary(), [8]api.Errno{none, ask, 0, 0, none, none, ask, none})
}

// P3.1: the tool that the plan takes, and the strokes at the worst.
func TestNext(t *testing.T) {
	down, up := tool(-1, -1, 1), tool(1, 1, 1)
	for _, x := range []struct {
		name          string
		s             api.RaspShop
		off, metal    int
		tool, strokes int
		e             api.Errno
	}{
		{"7 with 6", example(), 7, 6, 0, 3, api.OK},
		{"3 with 3", example(), 3, 3, 0, 2, api.OK},
		{"1 with 0", example(), 1, 0, -1, 0, api.OK},
		{"7 with 4", example(), 7, 4, 0, 0, api.ErrNone},
		{"fine at the High", example(), 2, 30, -1, 0, api.OK},
		{"fine at the Low", example(), -2, 30, -1, 0, api.OK},
		{"not fine, no metal", example(), 3, 0, 0, 0, api.ErrNone},
		{"less metal than the tool takes", shop(to(0, 0), tool(1, 1, 5)), -1, 4, 0, 0, api.ErrNone},
		{"just as much", shop(to(0, 0), tool(1, 1, 5)), -1, 5, 0, 1, api.OK},
		{"the first of two that are the same", shop(to(0, 0), up, up), -1, 1, 0, 1, api.OK},
		{"the first of two that take as many", shop(to(0, 1), tool(1, 2, 3), up), -1, 30, 0, 1, api.OK},
		{"the cheap one, where metal is short", shop(to(0, 1), tool(1, 2, 3), up), -1, 2, 1, 1, api.OK},
		{"the one that takes fewer", shop(to(0, 0), down, tool(-2, -2, 1)), 4, 30, 1, 2, api.OK},
		{"a step too far, and one back", shop(to(0, 0), tool(-5, -5, 1), tool(1, 1, 1)), 4, 30, 0, 2, api.OK},
		{"a step away, if it comes first", shop(to(0, 0), tool(1, 1, 1), tool(-5, -5, 1)), 4, 30, 0, 2, api.OK},
		{"too far for all metal", shop(to(0, 0), tool(-5, -5, 2), tool(1, 1, 1)), -60, 30, 0, 0, api.ErrNone},
		{"fewer at the worst, not at best", shop(to(0, 2), tool(-9, -1, 1), tool(-3, -3, 1), tool(9, 9, 1)), 8, 30, 1, 2, api.OK},
		{"what is fine does not hold 0", shop(to(10, 12), up), 8, 2, 0, 2, api.OK},
		{"beyond what is fine", shop(to(10, 12), up), 13, 30, 0, 0, api.ErrNone},
		{"a tool that does nothing", shop(to(0, 0), tool(0, 0, 1)), 1, 30, 0, 0, api.ErrNone},
		{"a tool that may do nothing", shop(to(0, 0), tool(-1, 0, 1)), 1, 30, 0, 0, api.ErrNone},
		{"it may lead beyond 60", shop(to(-60, 59), tool(-30, 1, 1)), 60, 30, 0, 0, api.ErrNone},
		{"it leads to 60 at most", shop(to(60, 60), tool(1, 1, 1)), 59, 1, 0, 1, api.OK},
		{"it may lead beyond -60", shop(to(-59, 60), tool(-1, 30, 1)), -60, 30, 0, 0, api.ErrNone},
		{"it leads to -60 at most", shop(to(-60, -60), tool(-1, -1, 1)), -59, 1, 0, 1, api.OK},
		{"another tool, if one may lead beyond", shop(to(-60, 59), tool(-30, 1, 1), down), 60, 30, 1, 1, api.OK},
		{"30 strokes", shop(to(0, 0), up), -30, 30, 0, 30, api.OK},
		{"31 strokes", shop(to(0, 0), up), -31, 30, 0, 0, api.ErrNone},
		{"from -60 on", shop(to(0, 0), tool(2, 2, 1)), -60, 30, 0, 30, api.OK},
		{"from 60 on", shop(to(0, 0), tool(-30, -30, 10)), 60, 20, 0, 2, api.OK},
	} {
		tool, strokes, e := rasp.Next(x.s, x.off, x.metal)
		if tool != x.tool || strokes != x.strokes || e != x.e {
			t.Errorf("%s: %d, %d, %d", x.name, tool, strokes, e)
		}
	}
}

// P3.2: the strokes of keys; those that may be spoilt; all together.
func TestStrokes(t *testing.T) {
	for i, want := range []int{3, 3, 0} {
		e := api.OK
		if i == 2 {
			e = api.ErrNone
		}
		if n, f := rasp.Strokes(example(), i); n != want || f != e {
			t.Errorf("Strokes of the key %d: %d, %d", i, n, f)
		}
	}
	up := tool(1, 1, 1)
	for _, x := range []struct {
		name   string
		keys   []api.RaspKey
		spoilt []int
		total  int
	}{
		{"no keys", nil, nil, 0},
		{"a fine key", []api.RaspKey{key(0, 0, 0)}, nil, 0},
		{"the greatest from its Now", []api.RaspKey{key(-5, 0, 5)}, nil, 5},
		{"a metal too little", []api.RaspKey{key(-5, 0, 4)}, []int{0}, 0},
		{"spoilt at the High alone", []api.RaspKey{key(-5, 1, 5)}, []int{0}, 0},
		{"all of six", slices.Repeat([]api.RaspKey{key(-2, -1, 30)}, 6), nil, 12},
		{"some of six", []api.RaspKey{key(1, 1, 30), key(-1, 0, 1), key(-3, 2, 9), key(-9, -9, 9), key(0, 0, 0), key(-60, 60, 30)}, []int{0, 2, 5}, 0},
		{"each has its own metal", []api.RaspKey{key(-3, -3, 3), key(-3, -3, 2)}, []int{1}, 0},
	} {
		s := shop(to(0, 0), up)
		s.Keys = x.keys
		list, e := rasp.Spoilt(s)
		if !slices.Equal(list, x.spoilt) || e != api.OK {
			t.Errorf("Spoilt of %s: %v, %d", x.name, list, e)
		}
		want := api.OK
		if x.spoilt != nil {
			want = api.ErrNone
		}
		if n, e := rasp.Total(s); n != x.total || e != want {
			t.Errorf("Total of %s: %d, %d", x.name, n, e)
		}
	}
	if list, e := rasp.Spoilt(example()); !slices.Equal(list, []int{2}) || e != api.OK {
		t.Errorf("Spoilt of the example: %v, %d", list, e)
	}
	if n, e := rasp.Total(safe()); n != 6 || e != api.OK {
		t.Errorf("Total of the safe keys: %d, %d", n, e)
	}
}

// P3.2: neither end of Now takes the most strokes.
func TestInsideNow(t *testing.T) {
	s := shop(to(0, 0), tool(-4, -4, 1), tool(1, 1, 1))
	s.Keys = []api.RaspKey{key(0, 4, 30)}
	for off, want := range []int{0, 4, 3, 2, 1} {
		if _, n, e := rasp.Next(s, off, 30); n != want || e != api.OK {
			t.Errorf("Next of %d: %d, %d", off, n, e)
		}
	}
	if n, e := rasp.Strokes(s, 0); n != 4 || e != api.OK {
		t.Errorf("Strokes: %d, %d", n, e)
	}
	// With 3 of metal the number 1 alone may be spoilt.
	s.Keys[0].Metal = 3
	if n, e := rasp.Strokes(s, 0); n != 0 || e != api.ErrNone {
		t.Errorf("Strokes with less metal: %d, %d", n, e)
	}
}

// P3.3: the metal that is enough.
func TestNeed(t *testing.T) {
	up := tool(1, 1, 1)
	for _, x := range []struct {
		name string
		s    api.RaspShop
		off  int
		want int
		e    api.Errno
	}{
		{"9 of the example", example(), 9, 5, api.OK},
		{"5 of the example", example(), 5, 2, api.OK},
		{"-7 of the example", example(), -7, 3, api.OK},
		{"0 of the example", example(), 0, 0, api.OK},
		{"all metal", shop(to(0, 0), up), -30, 30, api.OK},
		{"more than that", shop(to(0, 0), up), -31, 0, api.ErrNone},
		{"a metal less than a stroke more", shop(to(0, 0), tool(1, 1, 7)), -4, 28, api.OK},
		{"a stroke more", shop(to(0, 0), tool(1, 1, 7)), -5, 0, api.ErrNone},
		{"by the tool that takes less, though it is slow", shop(to(0, 0), tool(3, 3, 10), up), -3, 3, api.OK},
		{"by both", shop(to(0, 0), tool(3, 3, 2), up), -4, 3, api.OK},
		{"the wrong way", shop(to(0, 0), up), 1, 0, api.ErrNone},
		{"at 60", shop(to(60, 60), up), 60, 0, api.OK},
		{"at -60", shop(to(-59, 60), up), -60, 1, api.OK},
	} {
		if n, e := rasp.Need(x.s, x.off); n != x.want || e != x.e {
			t.Errorf("%s: %d, %d", x.name, n, e)
		}
	}
}

// P3.4: the strokes at best.
func TestLucky(t *testing.T) {
	for _, x := range []struct {
		name       string
		s          api.RaspShop
		off, metal int
		want       int
		e          api.Errno
	}{
		{"9 with 6", example(), 9, 6, 2, api.OK},
		{"7 with 4", example(), 7, 4, 1, api.OK},
		{"fine", example(), 2, 0, 0, api.OK},
		{"no metal", example(), 3, 0, 0, api.ErrNone},
		{"just not too far", example(), 20, 6, 3, api.OK},
		{"too far", example(), 21, 6, 0, api.ErrNone},
		{"it may do nothing, but does not", shop(to(0, 0), tool(-1, 0, 1)), 3, 3, 3, api.OK},
		{"it does nothing", shop(to(0, 0), tool(0, 0, 1)), 3, 30, 0, api.ErrNone},
		{"it may lead beyond 60", shop(to(-60, 59), tool(-30, 1, 1)), 60, 30, 1, api.OK},
		{"it may lead beyond -60", shop(to(-59, 60), tool(-1, 30, 1)), -60, 30, 1, api.OK},
		{"all leads beyond 60", shop(to(-60, 59), tool(1, 30, 1)), 60, 30, 0, api.ErrNone},
		{"all leads beyond -60", shop(to(-59, 60), tool(-30, -1, 1)), -60, 30, 0, api.ErrNone},
		{"the best of two tools", shop(to(0, 0), tool(-1, -1, 1), tool(-9, 9, 1)), 9, 30, 1, api.OK},
		{"30 strokes", shop(to(0, 0), tool(0, 2, 1)), -60, 30, 30, api.OK},
		{"29 of metal", shop(to(0, 0), tool(0, 2, 1)), -60, 29, 0, api.ErrNone},
		{"within an end of Move", shop(to(5, 5), tool(-2, 7, 3)), 0, 3, 1, api.OK},
	} {
		if n, e := rasp.Lucky(x.s, x.off, x.metal); n != x.want || e != x.e {
			t.Errorf("%s: %d, %d", x.name, n, e)
		}
	}
}

// P3.5: what the strokes of the plan truly do.
func TestPlay(t *testing.T) {
	thirty := shop(to(0, 0), tool(1, 1, 1))
	thirty.Keys = []api.RaspKey{key(-30, -30, 30)}
	ones := slices.Repeat([]int{1}, 30)
	for _, x := range []struct {
		name     string
		s        api.RaspShop
		key, off int
		moves    []int
		tools    []int
		end      int
		e        api.Errno
	}{
		{"7 down, down and up", example(), 0, 7, []int{-4, -6, 2}, []int{0, 0, 1}, -1, api.OK},
		{"a move too few", example(), 0, 7, []int{-4, -6}, nil, 0, api.ErrRaspMove},
		{"a move too many", example(), 0, 7, []int{-5, 0}, nil, 0, api.ErrRaspMove},
		{"just fine", example(), 0, 7, []int{-5}, []int{0}, 2, api.OK},
		{"the Low of Move", example(), 0, 7, []int{-6}, []int{0}, 1, api.OK},
		{"below Move", example(), 0, 7, []int{-7}, nil, 0, api.ErrRaspMove},
		{"above Move", example(), 0, 7, []int{-3}, nil, 0, api.ErrRaspMove},
		{"a move of the other tool", example(), 0, 7, []int{2}, nil, 0, api.ErrRaspMove},
		{"not the first one is wrong", example(), 0, 7, []int{-4, 2}, nil, 0, api.ErrRaspMove},
		{"up", example(), 1, -7, []int{2, 2, 2}, []int{1, 1, 1}, -1, api.OK},
		{"it ends sooner", example(), 1, -7, []int{3, 3}, []int{1, 1}, -1, api.OK},
		{"a key that may be spoilt", example(), 2, 20, []int{-6, -6, -6}, nil, 0, api.ErrNone},
		{"a key that may be spoilt, no moves", example(), 2, 20, nil, nil, 0, api.ErrNone},
		{"a fine key", with(func(s *api.RaspShop) { s.Keys[0] = key(-1, 9, 0) }), 0, 2, nil, nil, 2, api.OK},
		{"a fine key, a move", with(func(s *api.RaspShop) { s.Keys[0] = key(-1, 9, 6) }), 0, 2, []int{-4}, nil, 0, api.ErrRaspMove},
		{"what else the key is off does not matter", with(func(s *api.RaspShop) { s.Keys[0] = key(-60, 60, 2) }), 0, 5, []int{-6}, []int{0}, -1, api.OK},
		{"30 strokes", thirty, 0, -30, ones, slices.Repeat([]int{0}, 30), 0, api.OK},
		{"31 moves", thirty, 0, -30, append(slices.Clone(ones), 1), nil, 0, api.ErrRaspMove},
		{"29 moves", thirty, 0, -30, ones[:29], nil, 0, api.ErrRaspMove},
	} {
		tools, end, e := rasp.Play(x.s, x.key, x.off, x.moves)
		if !slices.Equal(tools, x.tools) || end != x.end || e != x.e {
			t.Errorf("%s: %v, %d, %d", x.name, tools, end, e)
		}
	}
}

// P3.5: the tool of a later stroke depends on what metal is left.
func TestMetalIsTaken(t *testing.T) {
	s := shop(to(0, 1), tool(-3, -2, 2), tool(-1, -1, 1))
	s.Keys = []api.RaspKey{key(6, 6, 5), key(6, 6, 30)}
	moves := []int{-2, -2, -1}
	if tools, end, e := rasp.Play(s, 0, 6, moves); !slices.Equal(tools, []int{0, 0, 1}) || end != 1 || e != api.OK {
		t.Errorf("with 5 of metal: %v, %d, %d", tools, end, e)
	}
	if tools, end, e := rasp.Play(s, 1, 6, []int{-3, -2}); !slices.Equal(tools, []int{0, 0}) || end != 1 || e != api.OK {
		t.Errorf("with 30 of metal: %v, %d, %d", tools, end, e)
	}
	s = shop(to(0, 0), tool(-2, -2, 3), tool(-1, -1, 1))
	s.Keys = []api.RaspKey{key(4, 4, 5), key(4, 4, 6)}
	if tools, _, e := rasp.Play(s, 0, 4, []int{-2, -1, -1}); !slices.Equal(tools, []int{0, 1, 1}) || e != api.OK {
		t.Errorf("metal for one great stroke: %v, %d", tools, e)
	}
	if tools, _, e := rasp.Play(s, 1, 4, []int{-2, -2}); !slices.Equal(tools, []int{0, 0}) || e != api.OK {
		t.Errorf("metal for two great strokes: %v, %d", tools, e)
	}
}

// P3.6: which tools can have done what was heard.
func TestTold(t *testing.T) {
	both := shop(to(0, 0), tool(-30, 30, 10), tool(1, 5, 1), tool(3, 30, 1), tool(0, 0, 1))
	long := slices.Repeat([]int{0}, 31)
	for _, x := range []struct {
		name  string
		s     api.RaspShop
		heard []int
		want  [][]int
		e     api.Errno
	}{
		{"7 3 -3 -1", example(), []int{7, 3, -3, -1}, [][]int{{0}, {0}, {1}}, api.OK},
		{"7 8", example(), []int{7, 8}, nil, api.ErrNone},
		{"no stroke", example(), []int{7}, nil, api.OK},
		{"nothing", example(), nil, nil, api.ErrRaspAsk},
		{"the last stroke can be done by none", example(), []int{7, 3, 4}, nil, api.ErrNone},
		{"the first one", example(), []int{7, 6, 2}, nil, api.ErrNone},
		{"a stroke at what is fine", example(), []int{0, 2, 4}, [][]int{{1}, {1}}, api.OK},
		{"the ends of Moves", example(), []int{0, -4, -10, -8, -5}, [][]int{{0}, {0}, {1}, {1}}, api.OK},
		{"more metal than any key has", example(), []int{60, 54, 48, 42, 36, 30, 24, 18, 12, 6, 0, -6, -12, -18, -24, -30, -36, -42, -48, -54, -60}, slices.Repeat([][]int{{0}}, 20), api.OK},
		{"several tools", both, []int{0, 3, 3, 8, 2, 3, 33}, [][]int{{0, 1, 2}, {0, 3}, {0, 1, 2}, {0}, {0, 1}, {0, 2}}, api.OK},
		{"31 numbers", both, long, slices.Repeat([][]int{{0, 3}}, 30), api.OK},
		{"32 numbers", both, append(slices.Clone(long), 0), nil, api.ErrRaspAsk},
		{"a leap that no stroke makes", both, []int{-60, 60}, nil, api.ErrNone},
		{"60 and -60", both, []int{60, 30, 0, -30, -60}, slices.Repeat([][]int{{0}}, 4), api.OK},
		{"61", both, []int{60, 61}, nil, api.ErrRaspAsk},
		{"-61 behind what none can do", both, []int{-60, 60, -61}, nil, api.ErrRaspAsk},
	} {
		list, e := rasp.Told(x.s, x.heard)
		if !slices.EqualFunc(list, x.want, slices.Equal) || e != x.e {
			t.Errorf("%s: %v, %d", x.name, list, e)
		}
	}
}

func copied(s api.RaspShop) api.RaspShop {
	s.Tools, s.Keys = slices.Clone(s.Tools), slices.Clone(s.Keys)
	return s
}

// P3.7, R4: nothing of an argument is changed.
func TestArguments(t *testing.T) {
	for _, s := range []api.RaspShop{example(), safe(), great()} {
		before := copied(s)
		q := ordinary()
		answers(s, q)
		if !reflect.DeepEqual(s, before) {
			t.Errorf("a shop was changed: %v is %v", before, s)
		}
		if !reflect.DeepEqual(q, ordinary()) {
			t.Errorf("a question was changed: %v", q)
		}
	}
}

// P3.7, R4: results share no memory, neither with each other nor with those of a later call.
func TestMemory(t *testing.T) {
	same := slices.Repeat([]int{0}, 3)
	moves := []int{-4, -6, 2}
	for name, list := range map[string]func() []int{
		"Spoilt": func() []int { l, _ := rasp.Spoilt(example()); return l },
		"Play":   func() []int { l, _, _ := rasp.Play(example(), 0, 7, moves); return l },
		"Told":   func() []int { l, _ := rasp.Told(great(), same); return l[0] },
	} {
		first := list()
		want := slices.Clone(first)
		for i := range first {
			first[i] = -1
		}
		if again := list(); !slices.Equal(again, want) || len(want) == 0 {
			t.Errorf("%s: %v after a result was changed, not %v", name, again, want)
		}
	}
	if !slices.Equal(moves, []int{-4, -6, 2}) {
		t.Errorf("the moves were changed: %v", moves)
	}
	told, _ := rasp.Told(great(), same)
	for i := range told[0] {
		told[0][i] = -1
	}
	if _ = append(told[0], -1, -1); !slices.Equal(told[1], []int{0, 1, 2, 3}) {
		t.Errorf("Told: the tools of a stroke were changed by those of another one: %v", told[1])
	}
}

// R3: nil and empty are the same.
func TestNilAndEmpty(t *testing.T) {
	bare := with(func(s *api.RaspShop) { s.Keys = nil })
	empty := with(func(s *api.RaspShop) { s.Keys = []api.RaspKey{} })
	none := with(func(s *api.RaspShop) { s.Tools = nil })
	noTools := with(func(s *api.RaspShop) { s.Tools = []api.RaspTool{} })
	fine := with(func(s *api.RaspShop) { s.Keys[0] = key(7, 7, 6); s.Fine = to(7, 7) })
	for _, pair := range [][2]api.RaspShop{{bare, empty}, {none, noTools}, {fine, fine}} {
		one, e := answers(pair[0], asking(func(q *question) { q.moves, q.heard = nil, nil }))
		other, f := answers(pair[1], asking(func(q *question) { q.moves, q.heard = []int{}, []int{} }))
		if !reflect.DeepEqual(one, other) || !slices.Equal(e, f) {
			t.Errorf("%v: %v, %v; %v: %v, %v", pair[0], one, e, pair[1], other, f)
		}
	}
}

// P2: a call says the same, whatever was called before.
func TestSameAgain(t *testing.T) {
	shops := []api.RaspShop{example(), safe(), great(), small(), {}}
	for _, s := range shops {
		first, e := answers(s, ordinary())
		for _, between := range shops {
			answers(between, question{off: -7, metal: 3, key: 1, now: -7, moves: []int{3, 3}, heard: []int{-7, -4, -1}})
		}
		if again, f := answers(s, ordinary()); !reflect.DeepEqual(first, again) || !slices.Equal(e, f) {
			t.Errorf("%v: %v, and then %v", s, first, again)
		}
	}
}
