package settle_test

import (
	"math"
	"reflect"
	"slices"
	"testing"

	"saron/api"
	"saron/settle"
)

func to(low, high int) api.Span { return api.Span{Low: low, High: high} }

func only(number int) api.Span { return to(number, number) }

func key(begin, rate api.Span, down, up int) api.SettleKey {
	return api.SettleKey{Begin: begin, Rate: rate, Down: down, Up: up}
}

func fixed(begin, rate api.Span) api.SettleKey {
	return api.SettleKey{Begin: begin, Rate: rate, Fixed: true}
}

// still is a key that has just this pitch, and never drifts.
func still(pitch, down, up int) api.SettleKey { return key(only(pitch), only(0), down, up) }

func stillFixed(pitch int) api.SettleKey { return fixed(only(pitch), only(0)) }

func look(year, key, read, err int) api.SettleLook {
	return api.SettleLook{Year: year, Key: key, Read: read, Err: err}
}

func file(year, key, low, high int) api.SettleFile {
	return api.SettleFile{Year: year, Key: key, By: to(low, high)}
}

// example is the set of the chapter's examples.
func example() api.SettleSet {
	return api.SettleSet{
		Years: 3,
		Keys: []api.SettleKey{
			fixed(to(5000, 5010), to(0, 2)),
			key(to(6000, 6020), to(-5, 5), 100, 100),
			key(to(7100, 7100), to(-10, 0), 200, 50),
		},
		Steps: []api.Span{to(950, 1025), to(1030, 1100)},
		Files: []api.SettleFile{file(1, 2, -20, -10)},
		Looks: []api.SettleLook{look(2, 1, 6030, 10), look(3, 0, 5010, 4)},
	}
}

// with returns the set of the examples after a change.
func with(change func(s *api.SettleSet)) api.SettleSet {
	s := example()
	change(&s)
	return s
}

// looking returns the set of the examples with some looks more.
func looking(looks ...api.SettleLook) api.SettleSet {
	return with(func(s *api.SettleSet) { s.Looks = append(s.Looks, looks...) })
}

// alone is a set of one key.
func alone(years int, k api.SettleKey, looks ...api.SettleLook) api.SettleSet {
	return api.SettleSet{Years: years, Keys: []api.SettleKey{k}, Looks: looks}
}

// chain is a set of a year in which the keys have these steps.
func chain(steps []api.Span, keys ...api.SettleKey) api.SettleSet {
	return api.SettleSet{Years: 1, Keys: keys, Steps: steps}
}

// torn is the set of the examples whose first two keys cannot be helped.
func torn() api.SettleSet {
	return with(func(s *api.SettleSet) { s.Keys[1].Fixed, s.Steps[0] = true, to(950, 1000) })
}

// great is a set as great as can be.
func great() api.SettleSet {
	s := api.SettleSet{Years: 40, Steps: slices.Repeat([]api.Span{to(0, 30000)}, 6)}
	s.Keys = slices.Repeat([]api.SettleKey{key(to(5000, 20000), to(-50, 50), 1000, 1000)}, 7)
	for i := range 6 {
		s.Files = append(s.Files, file(39*(i%2), i+1, -200, 200))
	}
	for i := range 12 {
		s.Looks = append(s.Looks, look(40*(1-i/7), i%7, 12000, 500))
	}
	return s
}

// small is a set as small as can be.
func small() api.SettleSet { return alone(1, stillFixed(5000)) }

func validSets() map[string]api.SettleSet {
	sets := map[string]api.SettleSet{
		"the example":           example(),
		"torn":                  torn(),
		"as great as can be":    great(),
		"as small as can be":    small(),
		"looks that contradict": looking(look(0, 0, 0, 0), look(3, 2, 30000, 500)),
	}
	for name, change := range map[string]func(s *api.SettleSet){
		"begin at 5000":          func(s *api.SettleSet) { s.Keys[0].Begin = only(5000) },
		"begin at 20000":         func(s *api.SettleSet) { s.Keys[0].Begin = only(20000) },
		"a rate of -50":          func(s *api.SettleSet) { s.Keys[0].Rate = only(-50) },
		"a rate of 50":           func(s *api.SettleSet) { s.Keys[0].Rate = only(50) },
		"no reach":               func(s *api.SettleSet) { s.Keys[2].Down, s.Keys[2].Up = 0, 0 },
		"a reach of 1000":        func(s *api.SettleSet) { s.Keys[2].Down, s.Keys[2].Up = 1000, 1000 },
		"a fixed key's reach":    func(s *api.SettleSet) { s.Keys[0].Down, s.Keys[0].Up = 1000, 1000 },
		"a step of 0":            func(s *api.SettleSet) { s.Steps[0] = only(0) },
		"a step of 30000":        func(s *api.SettleSet) { s.Steps[1] = only(30000) },
		"no file":                func(s *api.SettleSet) { s.Files = nil },
		"six files":              func(s *api.SettleSet) { s.Files = slices.Repeat(s.Files, 6) },
		"a file in the year 0":   func(s *api.SettleSet) { s.Files[0].Year = 0 },
		"a file ahead of Years":  func(s *api.SettleSet) { s.Files[0].Year = 2 },
		"a file of the key 0":    func(s *api.SettleSet) { s.Files[0].Key = 0 },
		"a file of -200":         func(s *api.SettleSet) { s.Files[0].By = only(-200) },
		"a file of 200":          func(s *api.SettleSet) { s.Files[0].By = only(200) },
		"no look":                func(s *api.SettleSet) { s.Looks = nil },
		"twelve looks":           func(s *api.SettleSet) { s.Looks = slices.Repeat(s.Looks, 6) },
		"a look in the year 0":   func(s *api.SettleSet) { s.Looks[0].Year = 0 },
		"a look in the year 3":   func(s *api.SettleSet) { s.Looks[0].Year = 3 },
		"a look at the key 2":    func(s *api.SettleSet) { s.Looks[0].Key = 2 },
		"read as 0":              func(s *api.SettleSet) { s.Looks[0].Read = 0 },
		"read as 30000":          func(s *api.SettleSet) { s.Looks[0].Read = 30000 },
		"a look that is right":   func(s *api.SettleSet) { s.Looks[0].Err = 0 },
		"a look that is 500 off": func(s *api.SettleSet) { s.Looks[0].Err = 500 },
	} {
		sets[name] = with(change)
	}
	return sets
}

func wrongSets() map[string]api.SettleSet {
	sets := map[string]api.SettleSet{"nothing": {}}
	for name, change := range map[string]func(s *api.SettleSet){
		"no year":                      func(s *api.SettleSet) { s.Years, s.Files, s.Looks = 0, nil, nil },
		"years below 0":                func(s *api.SettleSet) { s.Years, s.Files, s.Looks = -1, nil, nil },
		"41 years":                     func(s *api.SettleSet) { s.Years = 41 },
		"no key":                       func(s *api.SettleSet) { s.Keys, s.Steps, s.Files, s.Looks = nil, nil, nil, nil },
		"eight keys":                   func(s *api.SettleSet) { s.Keys, s.Steps = slices.Repeat(s.Keys[:1], 8), slices.Repeat(s.Steps[:1], 7) },
		"begin below 5000":             func(s *api.SettleSet) { s.Keys[0].Begin.Low = 4999 },
		"begin above 20000":            func(s *api.SettleSet) { s.Keys[2].Begin.High = 20001 },
		"begin turned":                 func(s *api.SettleSet) { s.Keys[1].Begin = to(6001, 6000) },
		"a rate below -50":             func(s *api.SettleSet) { s.Keys[1].Rate.Low = -51 },
		"a rate above 50":              func(s *api.SettleSet) { s.Keys[0].Rate.High = 51 },
		"a rate turned":                func(s *api.SettleSet) { s.Keys[0].Rate = to(2, 1) },
		"down below 0":                 func(s *api.SettleSet) { s.Keys[1].Down = -1 },
		"down above 1000":              func(s *api.SettleSet) { s.Keys[1].Down = 1001 },
		"up below 0":                   func(s *api.SettleSet) { s.Keys[2].Up = -1 },
		"up above 1000":                func(s *api.SettleSet) { s.Keys[2].Up = 1001 },
		"down of a fixed key":          func(s *api.SettleSet) { s.Keys[0].Down = 1001 },
		"up of a fixed key":            func(s *api.SettleSet) { s.Keys[0].Up = -1 },
		"a step too few":               func(s *api.SettleSet) { s.Steps = s.Steps[:1] },
		"a step too many":              func(s *api.SettleSet) { s.Steps = append(s.Steps, s.Steps[0]) },
		"no steps":                     func(s *api.SettleSet) { s.Steps = nil },
		"a step below 0":               func(s *api.SettleSet) { s.Steps[0].Low = -1 },
		"a step above 30000":           func(s *api.SettleSet) { s.Steps[1].High = 30001 },
		"a step turned":                func(s *api.SettleSet) { s.Steps[1] = to(1031, 1030) },
		"seven files":                  func(s *api.SettleSet) { s.Files = slices.Repeat(s.Files, 7) },
		"a file ahead of the year 0":   func(s *api.SettleSet) { s.Files[0].Year = -1 },
		"a file in the last year":      func(s *api.SettleSet) { s.Files[0].Year = 3 },
		"a file of the key -1":         func(s *api.SettleSet) { s.Files[0].Key = -1 },
		"a file of the key 3":          func(s *api.SettleSet) { s.Files[0].Key = 3 },
		"a file below -200":            func(s *api.SettleSet) { s.Files[0].By.Low = -201 },
		"a file above 200":             func(s *api.SettleSet) { s.Files[0].By.High = 201 },
		"a file turned":                func(s *api.SettleSet) { s.Files[0].By = to(-10, -20) },
		"thirteen looks":               func(s *api.SettleSet) { s.Looks = slices.Repeat(s.Looks[:1], 13) },
		"a look ahead of the year 0":   func(s *api.SettleSet) { s.Looks[1].Year = -1 },
		"a look behind the last year":  func(s *api.SettleSet) { s.Looks[1].Year = 4 },
		"a look at the key -1":         func(s *api.SettleSet) { s.Looks[0].Key = -1 },
		"a look at the key 3":          func(s *api.SettleSet) { s.Looks[0].Key = 3 },
		"read below 0":                 func(s *api.SettleSet) { s.Looks[0].Read = -1 },
		"read above 30000":             func(s *api.SettleSet) { s.Looks[0].Read = 30001 },
		"an err below 0":               func(s *api.SettleSet) { s.Looks[1].Err = -1 },
		"an err above 500":             func(s *api.SettleSet) { s.Looks[1].Err = 501 },
		"numbers that are far too big": func(s *api.SettleSet) { s.Keys[0].Begin.High = math.MaxInt },
		"numbers that are too small":   func(s *api.SettleSet) { s.Files[0].By.Low = math.MinInt },
	} {
		sets[name] = with(change)
	}
	return sets
}

// question is what the functions are asked of a set.
type question struct {
	key, year int
	high      bool
	rows      [][]int
	tuning    []int
}

// truth is one of the set of the examples.
func truth() [][]int {
	return [][]int{{5005, 5006, 5008, 5008}, {6012, 6016, 6021, 6020}, {7100, 7095, 7075, 7070}}
}

func ordinary() question {
	return question{key: 1, year: 2, rows: truth(), tuning: []int{-1, 5990, -1}}
}

// asking returns the ordinary question after a change.
func asking(change func(q *question)) question {
	q := ordinary()
	change(&q)
	return q
}

// answers returns what each function says of a set, and the error of it, in the order of the chapter.
func answers(s api.SettleSet, q question) ([]any, []api.Errno) {
	is, e0 := settle.IsTruth(s, q.rows)
	was, e1 := settle.Was(s, q.key, q.year)
	past, e2 := settle.Past(s, q.key, q.year, q.high)
	wrong, e3 := settle.Wrong(s)
	tuned, e4 := settle.Tuned(s)
	does, e5 := settle.Does(s, q.tuning)
	tuning, e6 := settle.Tune(s)
	first, last, e7 := settle.Torn(s)
	return []any{is, was, past, wrong, tuned, does, tuning, [2]int{first, last}},
		[]api.Errno{e0, e1, e2, e3, e4, e5, e6, e7}
}

// wantErrors checks the errors of all functions, and that what comes with an error is zero (R2).
func wantErrors(t *testing.T, name string, s api.SettleSet, q question, want [8]api.Errno) {
	t.Helper()
	results, errors := answers(s, q)
	if [8]api.Errno(errors) != want {
		t.Errorf("%s: the errors are %v, not %v", name, errors, want)
	}
	for i, r := range results {
		v := reflect.ValueOf(r)
		empty := v.IsZero() || v.Kind() == reflect.Slice && v.Len() == 0
		if errors[i] != api.OK && !empty {
			t.Errorf("%s: the result %d comes with an error: %v", name, i, r)
		}
	}
}

// P4.1: what is valid.
func TestCheck(t *testing.T) {
	for name, s := range validSets() {
		if e := settle.Check(s); e != api.OK {
			t.Errorf("%s: %d", name, e)
		}
	}
	for name, s := range wrongSets() {
		if e := settle.Check(s); e != api.ErrSettle {
			t.Errorf("%s: %d", name, e)
		}
	}
}

// P4.1 to P4.6, R1, R2: the error that is named first, and nothing else with it.
func TestErrors(t *testing.T) {
	const bad, ask, no, none = api.ErrSettle, api.ErrSettleAsk, api.ErrSettleFalse, api.ErrNone
	worst := question{key: 99, year: math.MaxInt, tuning: []int{-2}}
	for name, s := range wrongSets() {
		wantErrors(t, name, s, worst, [8]api.Errno{bad, bad, bad, bad, bad, bad, bad, bad})
		wantErrors(t, name, s, ordinary(), [8]api.Errno{bad, bad, bad, bad, bad, bad, bad, bad})
	}
	wantErrors(t, "the example", example(), ordinary(), [8]api.Errno{7: none})
	wantErrors(t, "all that is wrong", example(), worst, [8]api.Errno{0, ask, ask, 0, 0, ask, 0, none})
	wantErrors(t, "torn", torn(), ordinary(), [8]api.Errno{6: none})
	belied := looking(look(3, 2, 7000, 20))
	wantErrors(t, "a wrong look", belied, ordinary(), [8]api.Errno{0, no, no, 0, no, no, no, no})
	wantErrors(t, "a wrong look, and a wrong question", belied, worst, [8]api.Errno{0, ask, ask, 0, no, ask, no, no})
	both := with(func(s *api.SettleSet) { *s = torn(); s.Looks = append(s.Looks, look(0, 2, 7099, 0)) })
	wantErrors(t, "a wrong look at a key of a torn set", both, ordinary(), [8]api.Errno{0, no, no, 0, no, no, no, no})
	for _, n := range []int{-1, 3, math.MinInt, math.MaxInt} {
		q := asking(func(q *question) { q.key = n })
		wantErrors(t, "no such key", example(), q, [8]api.Errno{0, ask, ask, 0, 0, 0, 0, none})
	}
	for _, n := range []int{-1, 4, math.MinInt, math.MaxInt} {
		q := asking(func(q *question) { q.year, q.high = n, true })
		wantErrors(t, "no such year", example(), q, [8]api.Errno{0, ask, ask, 0, 0, 0, 0, none})
	}
	for _, tuning := range [][]int{nil, {-1, -1}, {-1, -1, -1, -1}, {-2, -1, -1}, {-1, -1, -2}, {-1, math.MinInt, -1}} {
		q := asking(func(q *question) { q.tuning = tuning })
		wantErrors(t, "no such tuning", example(), q, [8]api.Errno{0, 0, 0, 0, 0, ask, 0, none})
		wantErrors(t, "no such tuning of what cannot be true", belied, q, [8]api.Errno{0, no, no, 0, no, ask, no, no})
	}
	wantErrors(t, "a key too many", small(), asking(func(q *question) { q.key, q.year = 1, 1 }), [8]api.Errno{0, ask, ask, 0, 0, ask, 0, none})
	wantErrors(t, "a year too many", small(), asking(func(q *question) { q.key, q.year = 0, 2 }), [8]api.Errno{0, ask, ask, 0, 0, ask, 0, none})
}

// P4.1: what is a truth.
func TestIsTruth(t *testing.T) {
	// row returns the truth with one row in the place of its own.
	row := func(key int, pitches ...int) [][]int {
		rows := truth()
		rows[key] = pitches
		return rows
	}
	for _, x := range []struct {
		name string
		rows [][]int
		want bool
	}{
		{"a truth", truth(), true},
		{"the lowest Begin, the greatest rates", row(0, 5000, 5002, 5004, 5006), true},
		{"the highest Begin, the least rates", row(0, 5010, 5010, 5010, 5010), true},
		{"below Begin", row(2, 7099, 7095, 7075, 7070), false},
		{"above Begin", row(0, 5011, 5011, 5011, 5011), false},
		{"a year above the rate", row(0, 5003, 5006, 5007, 5008), false},
		{"a year below the rate", row(0, 5007, 5006, 5007, 5008), false},
		{"the last year above the rate", row(0, 5003, 5004, 5006, 5009), false},
		{"below what was read", row(0, 5000, 5002, 5003, 5005), false},
		{"the highest of what was read", row(0, 5010, 5011, 5012, 5014), true},
		{"above what was read", row(0, 5010, 5011, 5013, 5015), false},
		{"a look at another key", row(1, 6015, 6015, 6020, 6020), true},
		{"not high enough for it", row(1, 6015, 6015, 6019, 6020), false},
		{"the file and the rate at their Lows", row(2, 7100, 7090, 7060, 7050), true},
		{"the file and the rate at their Highs", row(2, 7100, 7100, 7090, 7090), true},
		{"more than file and rate together", row(2, 7100, 7090, 7059, 7050), false},
		{"less than file and rate together", row(2, 7100, 7090, 7081, 7080), false},
		{"the file in another year", row(2, 7100, 7080, 7075, 7070), false},
		{"a row too short", row(1, 6012, 6016, 6021), false},
		{"a row too long", row(1, 6012, 6016, 6021, 6020, 6020), false},
		{"an empty row", row(1), false},
		{"a row too few", truth()[:2], false},
		{"a row too many", append(truth(), truth()[2]), false},
		{"nothing", nil, false},
		{"numbers that are far too small", row(2, 7100, math.MinInt, math.MinInt, math.MinInt), false},
		{"numbers that are far too big", row(2, 7100, 7095, 7075, math.MaxInt), false},
		{"numbers that are so from the beginning", row(0, math.MaxInt, math.MinInt, math.MaxInt, math.MinInt), false},
		{"the rows of other keys", [][]int{truth()[1], truth()[0], truth()[2]}, false},
	} {
		if is, e := settle.IsTruth(example(), x.rows); is != x.want || e != api.OK {
			t.Errorf("%s: %v, %d", x.name, is, e)
		}
	}
	belied := looking(look(3, 2, 7000, 20))
	if is, e := settle.IsTruth(belied, truth()); is || e != api.OK {
		t.Errorf("of a set that cannot be true: %v, %d", is, e)
	}
	two := with(func(s *api.SettleSet) { s.Files = append(s.Files, file(1, 2, -5, -1), file(1, 1, 7, 7)) })
	for _, x := range []struct {
		one, other []int
		want       bool
	}{
		{[]int{6012, 6016, 6028, 6030}, []int{7100, 7090, 7055, 7055}, true},
		{[]int{6012, 6016, 6028, 6030}, []int{7100, 7100, 7089, 7089}, true},
		{[]int{6012, 6016, 6028, 6030}, []int{7100, 7090, 7054, 7054}, false},
		{[]int{6012, 6016, 6028, 6030}, []int{7100, 7100, 7090, 7090}, false},
		{[]int{6012, 6016, 6029, 6030}, []int{7100, 7100, 7089, 7089}, false},
	} {
		if is, e := settle.IsTruth(two, [][]int{truth()[0], x.one, x.other}); is != x.want || e != api.OK {
			t.Errorf("two files of a year, %v, %v: %v, %d", x.one, x.other, is, e)
		}
	}
}

// rising returns what a pitch is in 40 years, if it grows by so much in each.
func rising(begin, rate int) []api.Span {
	var list []api.Span
	for year := range 41 {
		list = append(list, only(begin+year*rate))
	}
	return list
}

// filed is a set of a key that drifts a little, with some files.
func filed(files ...api.SettleFile) api.SettleSet {
	s := alone(3, key(only(8000), to(-1, 1), 0, 0))
	s.Files = files
	return s
}

// P4.2: between what pitches lie.
func TestWas(t *testing.T) {
	drift := key(to(8000, 8010), to(-3, 1), 0, 0)
	for _, x := range []struct {
		name string
		s    api.SettleSet
		key  int
		want []api.Span
	}{
		{"the key 0", example(), 0, []api.Span{to(5000, 5010), to(5002, 5012), to(5004, 5014), to(5006, 5014)}},
		{"the key 1", example(), 1, []api.Span{to(6010, 6020), to(6015, 6025), to(6020, 6030), to(6015, 6035)}},
		{"the key 2", example(), 2, []api.Span{only(7100), to(7090, 7100), to(7060, 7090), to(7050, 7090)}},
		{"no look", alone(2, drift), 0, []api.Span{to(8000, 8010), to(7997, 8011), to(7994, 8012)}},
		{"a look at the end", alone(2, drift, look(2, 0, 7994, 0)), 0, []api.Span{only(8000), only(7997), only(7994)}},
		{"a high look at the end", alone(2, drift, look(2, 0, 8012, 0)), 0, []api.Span{only(8010), only(8011), only(8012)}},
		{"a look at the beginning", alone(2, drift, look(0, 0, 8000, 2)), 0, []api.Span{to(8000, 8002), to(7997, 8003), to(7994, 8004)}},
		{"a look that says nothing new", alone(2, drift, look(1, 0, 8000, 500)), 0, []api.Span{to(8000, 8010), to(7997, 8011), to(7994, 8012)}},
		{"looks on both sides of a year", alone(2, drift, look(0, 0, 8004, 1), look(2, 0, 8003, 1)), 0, []api.Span{to(8003, 8005), to(8001, 8006), to(8002, 8004)}},
		{"several looks in a year", alone(1, drift, look(1, 0, 8000, 4), look(1, 0, 8009, 6), look(1, 0, 8003, 9)), 0, []api.Span{to(8002, 8007), to(8003, 8004)}},
		{"a look at another key", looking(look(0, 1, 6020, 0)), 0, []api.Span{to(5000, 5010), to(5002, 5012), to(5004, 5014), to(5006, 5014)}},
		{"years without a drift", alone(3, still(9000, 0, 0)), 0, slices.Repeat([]api.Span{only(9000)}, 4)},
		{"the highest pitch, that only rises", alone(40, fixed(only(20000), only(50))), 0, rising(20000, 50)},
		{"the lowest pitch, that only falls", alone(40, fixed(only(5000), only(-50))), 0, rising(5000, -50)},
		{"two files of a year", filed(file(1, 0, 5, 6), file(1, 0, -20, -10)), 0, []api.Span{only(8000), to(7999, 8001), to(7983, 7998), to(7982, 7999)}},
		{"the same file twice", filed(file(0, 0, 3, 5), file(0, 0, 3, 5)), 0, []api.Span{only(8000), to(8005, 8011), to(8004, 8012), to(8003, 8013)}},
		{"files of different years", filed(file(2, 0, 7, 7), file(0, 0, -7, -7)), 0, []api.Span{only(8000), to(7992, 7994), to(7991, 7995), to(7997, 8003)}},
	} {
		for year, want := range x.want {
			if was, e := settle.Was(x.s, x.key, year); was != want || e != api.OK {
				t.Errorf("%s, in the year %d: %v, %d, not %v", x.name, year, was, e, want)
			}
		}
	}
}

// wantPast checks that Past returns a row of a truth, in which the pitch is the greatest one, or the least. Nothing that was measured of another key matters: so a truth has any truth's rows of those.
func wantPast(t *testing.T, name string, s api.SettleSet, key, year int) {
	t.Helper()
	was, e := settle.Was(s, key, year)
	if e != api.OK {
		t.Fatalf("%s: Was %d, %d: %d", name, key, year, e)
	}
	for _, high := range []bool{false, true} {
		var rows [][]int
		for other := range s.Keys {
			row, _ := settle.Past(s, other, 0, !high)
			rows = append(rows, row)
		}
		row, e := settle.Past(s, key, year, high)
		if e != api.OK || len(row) != s.Years+1 {
			t.Fatalf("%s: Past %d, %d, %v: %v, %d", name, key, year, high, row, e)
		}
		want := was.Low
		if high {
			want = was.High
		}
		rows[key] = row
		if is, e := settle.IsTruth(s, rows); row[year] != want || !is || e != api.OK {
			t.Fatalf("%s: Past %d, %d, %v: %v, not %d in this year, or no truth: %v, %d", name, key, year, high, row, want, is, e)
		}
	}
}

// P4.2, P4.8: both ends of what is told are so in a truth.
func TestPast(t *testing.T) {
	for name, s := range map[string]api.SettleSet{
		"the example":         example(),
		"torn":                torn(),
		"as small as can be":  small(),
		"as great as can be":  great(),
		"two files":           filed(file(1, 0, 5, 6), file(1, 0, -20, -10)),
		"looks on both sides": alone(5, key(to(8000, 8010), to(-3, 1), 0, 0), look(0, 0, 8004, 1), look(4, 0, 7999, 3)),
	} {
		for key := range s.Keys {
			for year := range s.Years + 1 {
				wantPast(t, name, s, key, year)
			}
		}
	}
	sure := alone(2, fixed(to(8000, 8010), to(-3, 1)), look(2, 0, 7994, 0))
	for _, high := range []bool{false, true} {
		if row, e := settle.Past(sure, 0, 1, high); !slices.Equal(row, []int{8000, 7997, 7994}) || e != api.OK {
			t.Errorf("Past of what is sure, %v: %v, %d", high, row, e)
		}
	}
}

// looked is a set of two keys that never drift, and can have any pitch.
func looked(looks ...api.SettleLook) api.SettleSet {
	k := fixed(to(5000, 20000), only(0))
	return api.SettleSet{Years: 2, Keys: []api.SettleKey{k, k}, Steps: []api.Span{only(0)}, Looks: looks}
}

// P4.3: the looks that must be wrong.
func TestWrong(t *testing.T) {
	// one and other are looks at the key 0 that contradict each other; the same of the key 1 are apart, too.
	one, other, third := look(0, 0, 8000, 1), look(2, 0, 8004, 2), look(1, 0, 8007, 0)
	apart, far := look(2, 1, 9000, 0), look(0, 1, 9003, 2)
	near := look(1, 0, 8002, 1)
	var all []api.SettleLook
	for i := range 12 {
		all = append(all, look(i%3, i%2, 3000+i, 500))
	}
	for _, x := range []struct {
		name string
		s    api.SettleSet
		want []int
	}{
		{"the example", example(), nil},
		{"the example with a wrong look", looking(look(3, 2, 7000, 20)), []int{2}},
		{"the look just fits", looking(look(3, 2, 7030, 20)), nil},
		{"it just does not", looking(look(3, 2, 7029, 20)), []int{2}},
		{"it just fits from above", looking(look(3, 2, 7110, 20)), nil},
		{"it just does not from above", looking(look(3, 2, 7111, 20)), []int{2}},
		{"no look", small(), nil},
		{"one look", looked(one), nil},
		{"two that contradict each other", looked(one, other), []int{0}},
		{"the same in the other order", looked(other, one), []int{0}},
		{"one of three", looked(one, one, other), []int{2}},
		{"one of three, in the middle", looked(one, other, one), []int{1}},
		{"one of three, the first", looked(one, other, other), []int{0}},
		{"two of four", looked(one, other, one, other), []int{0, 2}},
		{"the first two of four, taken together", looked(one, other, other, one), []int{0, 3}},
		{"fewer, though they come later", looked(one, one, one, other, other), []int{3, 4}},
		{"three that contradict each other", looked(one, other, third), []int{0, 1}},
		{"one that fits two that do not", looked(near, one, look(0, 0, 8003, 0)), []int{1}},
		{"two that do not, and one between them", looked(one, near, look(0, 0, 8003, 0)), []int{0}},
		{"of two keys", looked(one, apart, other, far), []int{0, 1}},
		{"of two keys, one inside the other", looked(apart, one, other, far), []int{0, 1}},
		{"of two keys, the later one alone", looked(apart, one, far, apart), []int{2}},
		{"of two keys, a later look of the first one", looked(apart, one, far, one, other), []int{0, 4}},
		{"against Begin", looked(look(0, 0, 20003, 2), one, look(2, 1, 4998, 1)), []int{0, 2}},
		{"all of twelve", looked(all...), []int{0, 1, 2, 3, 4, 5, 6, 7, 8, 9, 10, 11}},
		{"further than the key can drift", alone(4, fixed(to(8000, 8100), to(-2, 3)), look(0, 0, 8050, 1), look(3, 0, 8062, 1)), []int{0}},
		{"as far as it can", alone(4, fixed(to(8000, 8100), to(-2, 3)), look(0, 0, 8050, 1), look(3, 0, 8061, 1)), nil},
		{"as far as it can down", alone(4, fixed(to(8000, 8100), to(-2, 3)), look(0, 0, 8050, 1), look(3, 0, 8042, 1)), nil},
		{"further down", alone(4, fixed(to(8000, 8100), to(-2, 3)), look(0, 0, 8050, 1), look(3, 0, 8041, 1)), []int{0}},
	} {
		if list, e := settle.Wrong(x.s); !slices.Equal(list, x.want) || e != api.OK {
			t.Errorf("%s: %v, %d, not %v", x.name, list, e, x.want)
		}
	}
}

// P4.4: the years in which a set surely is in tune.
func TestTuned(t *testing.T) {
	drifting := func(rate, step api.Span) api.SettleSet {
		return api.SettleSet{
			Years: 3, Keys: []api.SettleKey{stillFixed(5000), fixed(to(5100, 5104), rate)}, Steps: []api.Span{step},
		}
	}
	for _, x := range []struct {
		name string
		s    api.SettleSet
		want []int
	}{
		{"the example", example(), []int{0, 1}},
		{"one key", alone(3, fixed(to(5000, 20000), to(-50, 50))), []int{0, 1, 2, 3}},
		{"all years", drifting(only(0), to(100, 104)), []int{0, 1, 2, 3}},
		{"too low in some truth", drifting(only(0), to(101, 104)), nil},
		{"too high in some truth", drifting(only(0), to(100, 103)), nil},
		{"until it drifts up", drifting(to(0, 1), to(100, 105)), []int{0, 1}},
		{"until it drifts down", drifting(to(-2, 0), to(96, 104)), []int{0, 1, 2}},
		{"from when it drifted up", drifting(to(1, 1), to(102, 200)), []int{2, 3}},
		{"for a while", drifting(to(2, 2), to(102, 108)), []int{1, 2}},
		{"a step of 0", chain([]api.Span{to(0, 0)}, stillFixed(5000), stillFixed(5000)), []int{0, 1}},
		{"a key that is lower than the one before it", chain([]api.Span{to(0, 9)}, stillFixed(5001), stillFixed(5000)), nil},
		{"the last step of three", chain([]api.Span{only(5), only(5), only(5)}, stillFixed(5000), stillFixed(5005), stillFixed(5010), stillFixed(5016)), nil},
		{"a look makes it sure", with(func(s *api.SettleSet) { s.Looks = append(s.Looks, look(3, 2, 7050, 0), look(3, 1, 6017, 2)) }), []int{0, 1, 2, 3}},
		{"as great as can be", great(), nil},
	} {
		if list, e := settle.Tuned(x.s); !slices.Equal(list, x.want) || e != api.OK {
			t.Errorf("%s: %v, %d, not %v", x.name, list, e, x.want)
		}
	}
}

// P4.5: whether a tuning does.
func TestDoes(t *testing.T) {
	free := with(func(s *api.SettleSet) { s.Steps = []api.Span{to(0, 30000), to(0, 30000)} })
	for _, x := range []struct {
		name   string
		s      api.SettleSet
		tuning []int
		want   bool
	}{
		{"the key 1", example(), []int{-1, 5990, -1}, true},
		{"out of reach", example(), []int{-1, 5950, -1}, false},
		{"both", example(), []int{-1, 6000, 7050}, true},
		{"a key that is fixed", example(), []int{5000, 6000, -1}, false},
		{"nothing", example(), []int{-1, -1, -1}, false},
		{"the highest pitch that does", example(), []int{-1, 6020, -1}, true},
		{"a higher one", example(), []int{-1, 6021, -1}, false},
		{"a lower one than does", example(), []int{-1, 5989, -1}, false},
		{"the lowest one with the other key tuned", example(), []int{-1, 5964, 7050}, true},
		{"too low for the key before it", example(), []int{-1, 5963, 7050}, false},
		{"the highest one with the other key tuned", example(), []int{-1, 6031, 7070}, true},
		{"too high for the key before it", example(), []int{-1, 6032, 7070}, false},
		{"the other key alone", example(), []int{-1, -1, 7065}, false},
		{"down as far as can be", free, []int{-1, 5935, -1}, true},
		{"further down", free, []int{-1, 5934, -1}, false},
		{"up as far as can be", free, []int{-1, 6115, -1}, true},
		{"further up", free, []int{-1, 6116, -1}, false},
		{"down as far as another key can be", free, []int{-1, -1, 6890}, true},
		{"further down than it can be", free, []int{-1, -1, 6889}, false},
		{"up as far as it can be", free, []int{-1, -1, 7100}, true},
		{"further up than it can be", free, []int{-1, -1, 7101}, false},
		{"nothing, if all steps do", free, []int{-1, -1, -1}, true},
		{"a fixed key, if all steps do", free, []int{5010, -1, -1}, false},
		{"a fixed key that could be changed otherwise", with(func(s *api.SettleSet) { s.Keys[1].Fixed = true }), []int{-1, 5990, -1}, false},
		{"to 0", free, []int{-1, 0, -1}, false},
		{"far too high", free, []int{-1, math.MaxInt, math.MaxInt}, false},
		{"one key that stays", small(), []int{-1}, true},
		{"one key that is fixed", small(), []int{5000}, false},
		{"one key that is tuned to what it is", alone(1, still(5000, 0, 0)), []int{5000}, true},
		{"a key without reach", alone(1, key(to(5000, 5001), only(0), 0, 0)), []int{5000}, false},
		{"a key with just the reach", alone(1, key(to(5000, 5001), only(0), 1, 0)), []int{5000}, true},
		{"the pitch of the last year", alone(2, key(only(5000), only(50), 9, 0)), []int{5091}, true},
		{"the pitch of another year", alone(2, key(only(5000), only(50), 9, 0)), []int{5050}, false},
	} {
		if does, e := settle.Does(x.s, x.tuning); does != x.want || e != api.OK {
			t.Errorf("%s: %v, %d", x.name, does, e)
		}
	}
}

// tunedKeys returns how many keys are tuned.
func tunedKeys(tuning []int) int {
	many := 0
	for _, pitch := range tuning {
		if pitch != -1 {
			many++
		}
	}
	return many
}

// wantTune checks that Tune returns a tuning of so many keys that does, or ErrNone if none does (-1).
func wantTune(t *testing.T, name string, s api.SettleSet, many int) {
	t.Helper()
	tuning, e := settle.Tune(s)
	if many < 0 {
		if e != api.ErrNone || len(tuning) != 0 {
			t.Fatalf("%s: Tune: %v, %d; no tuning of %v does", name, tuning, e, s)
		}
		return
	}
	if e != api.OK || len(tuning) != len(s.Keys) || tunedKeys(tuning) != many {
		t.Fatalf("%s: Tune: %v, %d, not of %d keys of %v", name, tuning, e, many, s)
	}
	if does, e := settle.Does(s, tuning); !does || e != api.OK {
		t.Fatalf("%s: Tune: %v does not do: %d, for %v", name, tuning, e, s)
	}
}

// P4.5, P4.11: a tuning of as few keys as any.
func TestTune(t *testing.T) {
	ten, just := to(110, 120), only(100)
	wide := func(down, up int) api.SettleSet {
		return chain([]api.Span{to(100, 105)}, stillFixed(5000), key(to(5100, 5110), only(0), down, up))
	}
	for _, x := range []struct {
		name string
		s    api.SettleSet
		many int
	}{
		{"the example", example(), 1},
		{"torn", torn(), -1},
		{"one key", small(), 0},
		{"all is in tune", chain([]api.Span{just, just}, still(5000, 9, 9), still(5100, 9, 9), still(5200, 9, 9)), 0},
		{"just enough up", chain([]api.Span{ten}, stillFixed(5000), still(5100, 0, 10)), 1},
		{"not enough up", chain([]api.Span{ten}, stillFixed(5000), still(5100, 1000, 9)), -1},
		{"just enough down", chain([]api.Span{ten}, stillFixed(5000), still(5130, 10, 0)), 1},
		{"not enough down", chain([]api.Span{ten}, stillFixed(5000), still(5130, 9, 1000)), -1},
		{"the first of two keys", chain([]api.Span{ten}, still(5000, 10, 0), stillFixed(5100)), 1},
		{"a fixed key with a reach", chain([]api.Span{ten}, api.SettleKey{Begin: only(5000), Fixed: true, Down: 99, Up: 99}, stillFixed(5100)), -1},
		{"both of two keys", chain([]api.Span{ten}, still(5000, 4, 0), still(5100, 0, 6)), 2},
		{"not even both", chain([]api.Span{ten}, still(5000, 4, 9), still(5100, 9, 5)), -1},
		{"a key that is not sure, to the middle", wide(5, 5), 1},
		{"it is too high for that in some truth", wide(4, 1000), -1},
		{"it is too low for that in some truth", wide(5, 4), -1},
		{"a key that is not sure, to its lowest pitch", wide(10, 0), 1},
		{"it is too high for it in some truth", wide(9, 0), -1},
		{"a key that is too uncertain", chain([]api.Span{to(100, 110)}, stillFixed(5000), key(to(5090, 5111), only(0), 10, 10)), -1},
		{"a key that is just not too uncertain", chain([]api.Span{to(100, 110)}, stillFixed(5000), key(to(5090, 5111), only(0), 10, 11)), 1},
		{"the middle one of three", chain([]api.Span{just, just}, still(5000, 99, 99), still(5150, 99, 99), still(5200, 99, 99)), 1},
		{"both neighbours, if the middle one is fixed", chain([]api.Span{just, just}, still(5000, 99, 99), stillFixed(5150), still(5200, 99, 99)), 2},
		{"the first one cannot be as low as it can", chain([]api.Span{just, just}, still(5000, 10, 10), still(5110, 5, 5), stillFixed(5205)), 2},
		{"nor as high", chain([]api.Span{just, just}, still(5010, 10, 10), still(5100, 5, 5), stillFixed(5205)), 2},
		{"a run of four", chain([]api.Span{just, just, just, just, just}, stillFixed(5000), still(5101, 5, 5), still(5201, 5, 5), still(5301, 5, 5), still(5401, 5, 5), stillFixed(5500)), 4},
		{"a run of four that is torn in the middle", chain([]api.Span{just, just, just, just, just}, stillFixed(5000), still(5101, 5, 5), still(5201, 5, 5), still(5301, 5, 5), still(5401, 5, 5), stillFixed(5501)), -1},
		{"two runs", chain([]api.Span{just, just, just, just}, stillFixed(5000), still(5103, 5, 5), stillFixed(5200), still(5297, 5, 5), stillFixed(5400)), 2},
		{"a key between keys that stay, and are not sure", chain([]api.Span{to(90, 110), to(90, 110)}, fixed(to(5000, 5010), only(0)), still(5120, 50, 50), fixed(to(5195, 5209), only(0))), 1},
		{"keys that stay, and are less sure", chain([]api.Span{to(90, 110), to(90, 110)}, fixed(to(5000, 5021), only(0)), still(5105, 50, 50), fixed(to(5200, 5210), only(0))), -1},
		{"the greatest set", great(), 6},
	} {
		wantTune(t, x.name, x.s, x.many)
	}
	s := example()
	if tuning, e := settle.Tune(s); e != api.OK || tuning[0] != -1 || tuning[1] < 5990 || tuning[1] > 6020 || tuning[2] != -1 {
		t.Errorf("the example: %v, %d", tuning, e)
	}
}

// P4.6: the part of a set that cannot be helped.
func TestTorn(t *testing.T) {
	just, ten := only(100), to(100, 110)
	loose := func(pitch int) api.SettleKey { return still(pitch, 1000, 1000) }
	for _, x := range []struct {
		name        string
		s           api.SettleSet
		first, last int
		e           api.Errno
	}{
		{"the example", example(), 0, 0, api.ErrNone},
		{"torn", torn(), 0, 1, api.OK},
		{"one key", small(), 0, 0, api.ErrNone},
		{"all is in tune", chain([]api.Span{just}, stillFixed(5000), stillFixed(5100)), 0, 0, api.ErrNone},
		{"all can be helped", chain([]api.Span{just}, stillFixed(5000), loose(5300)), 0, 0, api.ErrNone},
		{"the last two of three", chain([]api.Span{just, just}, stillFixed(5000), stillFixed(5100), stillFixed(5201)), 1, 2, api.OK},
		{"the first of several", chain([]api.Span{just, just, just}, stillFixed(5000), stillFixed(5100), stillFixed(5201), stillFixed(5302)), 1, 2, api.OK},
		{"three, of which any two can be helped", chain([]api.Span{ten, ten}, stillFixed(5000), loose(5105), stillFixed(5221)), 0, 2, api.OK},
		{"three that just can be helped", chain([]api.Span{ten, ten}, stillFixed(5000), loose(5105), stillFixed(5220)), 0, 0, api.ErrNone},
		{"two behind three", chain([]api.Span{ten, ten, ten, ten}, stillFixed(5000), loose(5105), stillFixed(5221), loose(5330), stillFixed(5440)), 0, 2, api.OK},
		{"two that are behind three that are torn, too", chain([]api.Span{ten, ten, ten}, stillFixed(5000), loose(5105), stillFixed(5221), stillFixed(5320)), 2, 3, api.OK},
		{"three behind three", chain([]api.Span{ten, ten, ten, ten}, stillFixed(5000), loose(5105), stillFixed(5221), loose(5330), stillFixed(5450)), 0, 2, api.OK},
		{"the second three", chain([]api.Span{ten, ten, ten, ten}, stillFixed(5000), loose(5105), stillFixed(5220), loose(5330), stillFixed(5441)), 2, 4, api.OK},
		{"all seven", chain([]api.Span{ten, ten, ten, ten, ten, ten}, stillFixed(5000), loose(5110), loose(5220), loose(5330), loose(5440), loose(5550), stillFixed(5661)), 0, 6, api.OK},
		{"all seven just can be helped", chain([]api.Span{ten, ten, ten, ten, ten, ten}, stillFixed(5000), loose(5110), loose(5220), loose(5330), loose(5440), loose(5550), stillFixed(5660)), 0, 0, api.ErrNone},
		{"out of the reach of one of two", chain([]api.Span{just, just}, loose(5000), still(5150, 49, 0), stillFixed(5200)), 1, 2, api.OK},
		{"a step that no two keys that are not sure have", chain([]api.Span{to(0, 30000), to(0, 10)}, loose(5000), fixed(to(5000, 5006), only(0)), fixed(to(5005, 5015), only(0))), 1, 2, api.OK},
	} {
		first, last, e := settle.Torn(x.s)
		if first != x.first || last != x.last || e != x.e {
			t.Errorf("%s: %d, %d, %d, not %d, %d, %d", x.name, first, last, e, x.first, x.last, x.e)
		}
	}
}

func copied(s api.SettleSet) api.SettleSet {
	s.Keys, s.Steps = slices.Clone(s.Keys), slices.Clone(s.Steps)
	s.Files, s.Looks = slices.Clone(s.Files), slices.Clone(s.Looks)
	return s
}

// P4.7, R4: nothing of an argument is changed, nor what lies behind its lists.
func TestArguments(t *testing.T) {
	for _, s := range []api.SettleSet{example(), torn(), looking(look(3, 2, 7000, 20)), great()} {
		// The lists of the set are the beginnings of longer ones.
		all := copied(s)
		all.Keys, all.Steps = append(all.Keys, stillFixed(1)), append(all.Steps, only(1))
		all.Files, all.Looks = append(all.Files, file(1, 1, 1, 1)), append(all.Looks, look(1, 1, 1, 1))
		before := copied(all)
		s.Keys, s.Steps = all.Keys[:len(s.Keys)], all.Steps[:len(s.Steps)]
		s.Files, s.Looks = all.Files[:len(s.Files)], all.Looks[:len(s.Looks)]
		q := ordinary()
		answers(s, q)
		if !reflect.DeepEqual(all, before) {
			t.Errorf("a set was changed: %v is %v", before, all)
		}
		if !reflect.DeepEqual(q, ordinary()) {
			t.Errorf("a question was changed: %v", q)
		}
	}
}

// P4.7, R4: results share no memory with those of a later call.
func TestMemory(t *testing.T) {
	s := looking(look(3, 2, 7000, 20), look(0, 2, 7000, 20))
	for name, list := range map[string]func() []int{
		"Past":  func() []int { l, _ := settle.Past(example(), 1, 2, true); return l },
		"Wrong": func() []int { l, _ := settle.Wrong(s); return l },
		"Tuned": func() []int { l, _ := settle.Tuned(example()); return l },
		"Tune":  func() []int { l, _ := settle.Tune(example()); return l },
	} {
		first := list()
		for i := range first {
			first[i] = -7
		}
		if again := list(); len(again) == 0 || slices.Contains(again, -7) {
			t.Errorf("%s: %v after a result was changed", name, again)
		}
	}
}

// R3: nil and empty are the same.
func TestNilAndEmpty(t *testing.T) {
	bare := small()
	empty := bare
	empty.Steps, empty.Files, empty.Looks = []api.Span{}, []api.SettleFile{}, []api.SettleLook{}
	for _, pair := range [][2]api.SettleSet{{bare, empty}, {{Years: 1}, {Years: 1, Keys: []api.SettleKey{}}}} {
		one, e := answers(pair[0], question{})
		other, f := answers(pair[1], question{rows: [][]int{}, tuning: []int{}})
		for i := range one {
			v, w := reflect.ValueOf(one[i]), reflect.ValueOf(other[i])
			isSame := reflect.DeepEqual(one[i], other[i]) || v.Kind() == reflect.Slice && v.Len() == 0 && w.Len() == 0
			if !isSame || e[i] != f[i] {
				t.Errorf("%v: %v, %v; %v: %v, %v", pair[0], one[i], e[i], pair[1], other[i], f[i])
			}
		}
	}
}

// P2: a call says the same, whatever was called before.
func TestSameAgain(t *testing.T) {
	sets := []api.SettleSet{example(), torn(), looking(look(3, 2, 7000, 20)), great(), small(), {}}
	// sure leaves out what may be another row, or another tuning, each time.
	sure := func(s api.SettleSet, q question) ([]any, []api.Errno) {
		results, errors := answers(s, q)
		results[2], results[6] = nil, nil
		return results, errors
	}
	for _, s := range sets {
		first, e := sure(s, ordinary())
		for _, between := range sets {
			answers(between, question{key: 2, year: 3, high: true, tuning: []int{-1, -1, 7050}})
		}
		if again, f := sure(s, ordinary()); !reflect.DeepEqual(first, again) || !slices.Equal(e, f) {
			t.Errorf("%v: %v, and then %v", s, first, again)
		}
	}
}
