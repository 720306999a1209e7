package kernel_test

import (
	"math"
	"reflect"
	"slices"
	"testing"

	"saron/api"
	"saron/kernel"
)

// What can stand in the place of a tone.
const (
	rest = api.KernelRest
	lost = api.KernelLost
)

func register(rule, low, high, step int) api.KernelRegister {
	return api.KernelRegister{Rule: rule, Low: low, High: high, Step: step}
}

func scale(tones, octaves, length int, registers ...api.KernelRegister) api.KernelScale {
	return api.KernelScale{Tones: tones, Octaves: octaves, Length: length, Registers: registers}
}

func of(strokes ...int) []int { return strokes }

func entry(register int, strokes ...int) api.KernelHeard {
	return api.KernelHeard{Register: register, Strokes: strokes}
}

func heard(entries ...api.KernelHeard) []api.KernelHeard { return entries }

// example is the scale of the chapter's examples.
func example() api.KernelScale {
	return scale(5, 2, 4,
		register(api.KernelPlain, 0, 9, 0), register(api.KernelHalf, 0, 4, 0), register(api.KernelDouble, 3, 9, 0),
		register(api.KernelPair, 0, 7, 0), register(api.KernelNear, 5, 9, 1))
}

// with returns the scale of the examples after a change.
func with(change func(s *api.KernelScale)) api.KernelScale {
	s := example()
	change(&s)
	return s
}

// great is a scale as great as can be.
func great() api.KernelScale {
	return scale(7, 3, 16,
		register(api.KernelNear, 0, 20, 6), register(api.KernelNear, 0, 20, -6), register(api.KernelPair, 0, 20, 0),
		register(api.KernelDouble, 0, 20, 0), register(api.KernelHalf, 0, 20, 0))
}

// small is a scale as small as can be.
func small() api.KernelScale { return scale(2, 1, 2, register(api.KernelHalf, 1, 1, 0)) }

// poor is a scale of registers that have few tones, so that they often rest.
func poor() api.KernelScale {
	return scale(4, 3, 2,
		register(api.KernelPlain, 5, 6, 0), register(api.KernelNear, 2, 3, -6), register(api.KernelNear, 8, 9, 6),
		register(api.KernelDouble, 11, 11, 0), register(api.KernelHalf, 1, 10, 3))
}

func validScales() map[string]api.KernelScale {
	return map[string]api.KernelScale{
		"the example":           example(),
		"as great as can be":    great(),
		"as small as can be":    small(),
		"few tones":             poor(),
		"the greatest low":      scale(7, 3, 2, register(api.KernelNear, 20, 20, 0)),
		"the same registers":    with(func(s *api.KernelScale) { s.Registers = slices.Repeat(s.Registers[2:3], 5) }),
		"a step that is no use": with(func(s *api.KernelScale) { s.Registers[1].Step = -6 }),
	}
}

func wrongScales() map[string]api.KernelScale {
	scales := map[string]api.KernelScale{
		"nothing":                  {},
		"one tone of three":        scale(1, 3, 2, register(api.KernelPlain, 0, 2, 0)),
		"one tone alone":           scale(1, 1, 2, register(api.KernelPlain, 0, 0, 0)),
		"no octaves, and no tones": scale(5, 0, 2, register(api.KernelPlain, 0, -1, 0)),
		"tones and octaves, below": scale(-5, -2, 4, register(api.KernelPlain, 0, 9, 0)),
	}
	for name, change := range map[string]func(s *api.KernelScale){
		"one tone":                 func(s *api.KernelScale) { s.Tones, s.Octaves = 1, 3 },
		"eight tones":              func(s *api.KernelScale) { s.Tones = 8 },
		"no tones":                 func(s *api.KernelScale) { s.Tones = 0 },
		"tones below 0":            func(s *api.KernelScale) { s.Tones = -5 },
		"far too many tones":       func(s *api.KernelScale) { s.Tones = math.MaxInt },
		"no octaves":               func(s *api.KernelScale) { s.Octaves = 0 },
		"four octaves":             func(s *api.KernelScale) { s.Octaves = 4 },
		"octaves below 0":          func(s *api.KernelScale) { s.Octaves = math.MinInt },
		"no length":                func(s *api.KernelScale) { s.Length = 0 },
		"the length 1":             func(s *api.KernelScale) { s.Length = 1 },
		"an odd length":            func(s *api.KernelScale) { s.Length = 5 },
		"the length 15":            func(s *api.KernelScale) { s.Length = 15 },
		"the length 18":            func(s *api.KernelScale) { s.Length = 18 },
		"a length below 0":         func(s *api.KernelScale) { s.Length = -2 },
		"no registers":             func(s *api.KernelScale) { s.Registers = nil },
		"six registers":            func(s *api.KernelScale) { s.Registers = append(s.Registers, s.Registers[0]) },
		"a rule below 0":           func(s *api.KernelScale) { s.Registers[0].Rule = -1 },
		"the rule 5":               func(s *api.KernelScale) { s.Registers[4].Rule = 5 },
		"a rule far too great":     func(s *api.KernelScale) { s.Registers[4].Rule = math.MaxInt },
		"a low below 0":            func(s *api.KernelScale) { s.Registers[1].Low = -1 },
		"a low above the high":     func(s *api.KernelScale) { s.Registers[1].Low = 5 },
		"a high below 0":           func(s *api.KernelScale) { s.Registers[1].Low, s.Registers[1].High = -2, -1 },
		"a high above all tones":   func(s *api.KernelScale) { s.Registers[0].High = 10 },
		"a register above them":    func(s *api.KernelScale) { s.Registers[4].Low, s.Registers[4].High = 10, 10 },
		"a high far too great":     func(s *api.KernelScale) { s.Registers[2].High = math.MaxInt },
		"a low far too small":      func(s *api.KernelScale) { s.Registers[2].Low = math.MinInt },
		"tones of another octave":  func(s *api.KernelScale) { s.Octaves = 1 },
		"the step 7":               func(s *api.KernelScale) { s.Registers[4].Step = 7 },
		"the step -7":              func(s *api.KernelScale) { s.Registers[4].Step = -7 },
		"a wrong step of no use":   func(s *api.KernelScale) { s.Registers[0].Step = 7 },
		"a step far too great":     func(s *api.KernelScale) { s.Registers[4].Step = math.MaxInt },
		"a step far too small":     func(s *api.KernelScale) { s.Registers[4].Step = math.MinInt },
		"the last register is bad": func(s *api.KernelScale) { s.Registers[4] = register(0, 1, 0, 0) },
	} {
		scales[name] = with(change)
	}
	return scales
}

// question is what the functions are asked of a scale.
type question struct {
	kernel               []int
	register, one, other int
	heard                []api.KernelHeard
	place                int
}

func ordinary() question {
	return question{kernel: of(1, 7, 3, 5), register: 2, one: 2, other: 4, heard: heard(entry(0, 1, 7, 3, 5)), place: 1}
}

// asking returns the ordinary question after a change.
func asking(change func(q *question)) question {
	q := ordinary()
	change(&q)
	return q
}

// The numbers of the functions, in the order of the chapter.
const (
	part = iota
	many
	can
	won
	filled
	least
	pairs
	twins
	functions
)

// answers returns what each function says of a scale, and the error of it.
func answers(s api.KernelScale, q question) ([functions]any, [functions]api.Errno) {
	var results [functions]any
	var errors [functions]api.Errno
	results[part], errors[part] = kernel.Part(s, q.kernel, q.register)
	results[many], errors[many] = kernel.Many(s, q.heard)
	results[can], errors[can] = kernel.Can(s, q.heard, q.place)
	results[won], errors[won] = kernel.Won(s, q.heard)
	results[filled], errors[filled] = kernel.Filled(s, q.heard)
	results[least], errors[least] = kernel.Least(s, q.heard)
	results[pairs], errors[pairs] = kernel.Pairs(s)
	first, second, e := kernel.Twins(s, q.one, q.other)
	results[twins], errors[twins] = append(first, second...), e
	return results, errors
}

// wantErrors checks the errors of all functions, and that what comes with an error is zero (R2).
func wantErrors(t *testing.T, name string, s api.KernelScale, q question, want [functions]api.Errno) {
	t.Helper()
	results, errors := answers(s, q)
	if errors != want {
		t.Errorf("%s: the errors are %v, not %v", name, errors, want)
	}
	for i, r := range results {
		v := reflect.ValueOf(r)
		empty := v.IsZero() || v.Kind() == reflect.Slice && v.Len() == 0
		if errors[i] != api.OK && !empty {
			t.Errorf("%s: the result %d comes with an error: %v", name, i, r)
		}
	}
}

// P6.1: what is valid.
func TestCheck(t *testing.T) {
	for name, s := range validScales() {
		if e := kernel.Check(s); e != api.OK {
			t.Errorf("%s: %d", name, e)
		}
	}
	for name, s := range wrongScales() {
		if e := kernel.Check(s); e != api.ErrKernel {
			t.Errorf("%s: %d", name, e)
		}
	}
}

// P6.1 to P6.6, R1, R2: the error of a wrong scale comes first.
func TestWrongScales(t *testing.T) {
	const bad, ask = api.ErrKernel, api.ErrKernelAsk
	worst := question{kernel: of(-1), register: -1, one: 9, other: -1, heard: heard(entry(-1, 99)), place: -1}
	for name, s := range wrongScales() {
		wantErrors(t, name, s, worst, [functions]api.Errno{bad, bad, bad, bad, bad, bad, bad, bad})
		wantErrors(t, name, s, ordinary(), [functions]api.Errno{bad, bad, bad, bad, bad, bad, bad, bad})
	}
	wantErrors(t, "the ordinary question", example(), ordinary(), [functions]api.Errno{})
	wantErrors(t, "all that is wrong", example(), worst, [functions]api.Errno{ask, ask, ask, ask, ask, ask, api.OK, ask})
}

// P6.1 to P6.6, R1, R2: wrong questions.
func TestWrongQuestions(t *testing.T) {
	const ask = api.ErrKernelAsk
	for _, n := range []int{-1, 5, math.MinInt, math.MaxInt} {
		q := asking(func(q *question) { q.register = n })
		wantErrors(t, "no such register", example(), q, [functions]api.Errno{part: ask})
		q = asking(func(q *question) { q.one = n })
		wantErrors(t, "no such one", example(), q, [functions]api.Errno{twins: ask})
		q = asking(func(q *question) { q.other = n })
		wantErrors(t, "no such other one", example(), q, [functions]api.Errno{twins: ask})
		q = asking(func(q *question) { q.one, q.other = 0, n })
		wantErrors(t, "one that is enough, and no other", example(), q, [functions]api.Errno{twins: ask})
	}
	for _, n := range []int{-1, 4, math.MinInt, math.MaxInt} {
		q := asking(func(q *question) { q.place = n })
		wantErrors(t, "no such place", example(), q, [functions]api.Errno{can: ask})
		q.heard = heard(entry(0, 10, 0, 0, 0))
		wantErrors(t, "no such place, and no kernel", example(), q,
			[functions]api.Errno{can: ask, won: api.ErrKernelFalse, filled: api.ErrKernelFalse})
	}
	for _, k := range [][]int{nil, of(1, 7, 3), of(1, 7, 3, 5, 1), of(1, 7), of(-1, 0, 0, 0), of(0, 0, 0, 10), of(0, math.MaxInt, 0, 0), of(0, 0, math.MinInt, 0)} {
		q := asking(func(q *question) { q.kernel = k })
		wantErrors(t, "no kernel", example(), q, [functions]api.Errno{part: ask})
	}
	plain := entry(0, 1, 7, 3, 5)
	for _, h := range [][]api.KernelHeard{
		nil, slices.Repeat(heard(plain), 6), heard(entry(-1, 1, 7, 3, 5)), heard(entry(5, 1, 7, 3, 5)),
		heard(entry(math.MaxInt, 1)), heard(entry(math.MinInt, 1)), heard(plain, entry(0)), heard(entry(0, 1, 7, 3)),
		heard(entry(0, 1, 7, 3, 5, 1)), heard(entry(1, 1)), heard(entry(1, 1, 2, 3)), heard(entry(1, 1, 2, 3, 4)), heard(entry(2, 6, 6, 7, 7)),
		heard(entry(3, 1, 7, 1, 7, 3, 5, 3)), heard(entry(4, make([]int, 9)...)), heard(entry(0, 1, 7, 3, -3)), heard(entry(0, 1, 41, 3, 5)),
		heard(plain, entry(0, 1, 7, math.MaxInt, 5)), heard(entry(0, math.MinInt, 7, 3, 5), plain),
	} {
		q := asking(func(q *question) { q.heard = h })
		wantErrors(t, "what cannot be heard", example(), q, [functions]api.Errno{many: ask, can: ask, won: ask, filled: ask, least: ask})
	}
}

// P6.3, P6.4, P6.6, R1, R2: where no kernel fits, or many do, and where there are no twins.
func TestNone(t *testing.T) {
	const no, more, none = api.ErrKernelFalse, api.ErrKernelMany, api.ErrNone
	for _, h := range [][]api.KernelHeard{
		heard(entry(0, 1, 7, 3, 5), entry(1, 3, 0)),
		heard(entry(0, lost, lost, lost, 40)), heard(entry(0, 10, lost, lost, lost)), heard(entry(0, lost, lost, rest, lost)),
		heard(entry(2, lost, lost, 3, 4, lost, lost, lost, lost)), heard(entry(4, lost, lost, lost, lost, lost, lost, lost, 4)),
	} {
		q := asking(func(q *question) { q.heard = h })
		wantErrors(t, "no kernel fits", example(), q, [functions]api.Errno{can: no, won: no, filled: no})
	}
	q := asking(func(q *question) { q.heard = heard(entry(0, 1, 7, 3, lost)) })
	wantErrors(t, "many kernels fit", example(), q, [functions]api.Errno{won: more})
	q = asking(func(q *question) { q.heard = heard(entry(4, slices.Repeat([]int{lost}, 32)...)) })
	q.heard[0].Register, q.kernel, q.one, q.other = 0, make([]int, 16), 0, 1
	wantErrors(t, "all kernels fit", great(), q, [functions]api.Errno{won: more, twins: none})
	q = asking(func(q *question) { q.one, q.other = 0, 0 })
	wantErrors(t, "no twins", example(), q, [functions]api.Errno{twins: none})
	q.one, q.other = 3, 2
	wantErrors(t, "no twins, the greater number first", example(), q, [functions]api.Errno{twins: none})
}

// P6.1: the parts of registers.
func TestPart(t *testing.T) {
	for _, x := range []struct {
		name     string
		s        api.KernelScale
		kernel   []int
		register int
		want     []int
	}{
		{"plain", example(), of(1, 7, 3, 5), 0, of(1, 7, 3, 5)},
		{"half", example(), of(1, 7, 3, 5), 1, of(2, 0)},
		{"double", example(), of(1, 7, 3, 5), 2, of(6, 6, 7, 7, 3, 3, 5, 5)},
		{"in pairs", example(), of(1, 7, 3, 5), 3, of(1, 7, 1, 7, 3, 5, 3, 5)},
		{"near", example(), of(1, 7, 3, 5), 4, of(7, 6, 8, 7, 9, 8, 6, 5)},
		{"the first and the last tone", example(), of(0, 9, 9, 0), 3, of(0, 4, 0, 4, 4, 0, 4, 0)},
		{"in pairs, in another octave", example(), of(8, 9, 2, 3), 3, of(3, 4, 3, 4, 2, 3, 2, 3)},
		{"the least with the name", example(), of(8, 3, 9, 4), 2, of(8, 8, 3, 3, 9, 9, 4, 4)},
		{"near the end", example(), of(9, 4, 0, 5), 4, of(5, 9, 5, 9, 6, 5, 6, 5)},
		{"small, the tone", small(), of(0, 1), 0, of(1)},
		{"small, a rest", small(), of(1, 0), 0, of(rest)},
		{"two tones", poor(), of(6, 1), 0, of(6, 5)},
		{"two tones, an octave above", poor(), of(10, 9), 0, of(6, 5)},
		{"two tones, rests", poor(), of(7, 8), 0, of(rest, rest)},
		{"near, below all tones", poor(), of(0, 1), 1, of(2, rest, 3, rest)},
		{"near, below all tones, rests", poor(), of(3, 2), 1, of(rest, 3, rest, 2)},
		{"near, above all tones", poor(), of(11, 10), 2, of(9, rest, 8, rest)},
		{"near, above all tones, rests", poor(), of(9, 8), 2, of(rest, 9, rest, 8)},
		{"near, and no tone", poor(), of(6, 4), 2, of(8, rest, rest, 8)},
		{"one tone", poor(), of(3, 4), 3, of(11, 11, rest, rest)},
		{"half, with a step of no use", poor(), of(3, 0), 4, of(4)},
		{"half, the tone itself", poor(), of(3, 8), 4, of(8)},
		{"half, below its tones", poor(), of(3, 11), 4, of(3)},
		{"great, up", great(), of(0, 20, 14, 15, 0, 1, 0, 2, 0, 3, 0, 4, 0, 5, 0, 6), 0,
			of(6, 0, 5, 20, 20, 14, 0, 15, 6, 0, 7, 1, 6, 0, 8, 2, 6, 0, 9, 3, 6, 0, 10, 4, 6, 0, 11, 5, 6, 0, 12, 6)},
		{"great, down", great(), of(0, 20, 5, 6, 0, 1, 0, 2, 0, 3, 0, 4, 0, 5, 0, 6), 1,
			of(1, 0, 14, 20, 6, 5, 0, 6, 1, 0, 2, 1, 1, 0, 3, 2, 1, 0, 4, 3, 1, 0, 5, 4, 1, 0, 6, 5, 1, 0, 0, 6)},
	} {
		if p, e := kernel.Part(x.s, x.kernel, x.register); !slices.Equal(p, x.want) || e != api.OK {
			t.Errorf("%s: %v, %d, not %v", x.name, p, e, x.want)
		}
	}
}

func nothing(register, strokes int) api.KernelHeard {
	return entry(register, slices.Repeat([]int{lost}, strokes)...)
}

// P6.2: how many kernels fit.
func TestMany(t *testing.T) {
	doubled := entry(2, 6, 6, 7, 7, 3, 3, lost, lost)
	wide := scale(5, 2, 6, register(api.KernelPlain, 0, 9, 0), register(api.KernelHalf, 0, 9, 0))
	odd := scale(7, 1, 16, register(api.KernelPlain, 0, 6, 0))
	for _, x := range []struct {
		name  string
		s     api.KernelScale
		heard []api.KernelHeard
		want  int
	}{
		{"doubled", example(), heard(doubled), 40},
		{"doubled and in pairs", example(), heard(doubled, entry(3, 1, lost, lost, 7, lost, lost, 3, 5)), 1},
		{"none", example(), heard(entry(0, 1, 7, 3, 5), entry(1, 3, 0)), 0},
		{"all", example(), heard(nothing(4, 8)), 10000},
		{"all, told five times", example(), heard(nothing(4, 8), nothing(1, 2), nothing(4, 8), nothing(4, 8), nothing(0, 4)), 10000},
		{"half of them", example(), heard(entry(1, 2, lost)), 2000},
		{"a tone that none has", example(), heard(entry(0, lost, lost, lost, 10)), 0},
		{"the greatest that is heard", example(), heard(entry(0, 40, lost, lost, lost)), 0},
		{"a rest that none plays", example(), heard(entry(0, lost, rest, lost, lost)), 0},
		{"rests", poor(), heard(entry(0, rest, 5)), 18},
		{"rests alone", poor(), heard(entry(0, rest, rest)), 36},
		{"just as many as are counted", wide, heard(nothing(0, 6)), 1000000},
		{"some fewer", wide, heard(entry(1, lost, lost, 3)), 100000},
		{"the greatest number below", odd, heard(entry(0, append(slices.Repeat([]int{lost}, 7), make([]int, 9)...)...)), 823543},
		{"just above", odd, heard(entry(0, append(slices.Repeat([]int{lost}, 8), make([]int, 8)...)...)), 1000000},
		{"far more", great(), heard(nothing(0, 32)), 1000000},
		{"none at the last place, and far more", great(), heard(entry(2, append(slices.Repeat([]int{lost}, 31), 21)...)), 0},
		{"none at the first place, and far more", great(), heard(entry(2, append([]int{21}, slices.Repeat([]int{lost}, 31)...)...)), 0},
		{"small", small(), heard(nothing(0, 1)), 4},
		{"small, a rest", small(), heard(entry(0, rest)), 2},
	} {
		if n, e := kernel.Many(x.s, x.heard); n != x.want || e != api.OK {
			t.Errorf("%s: %d, %d, not %d", x.name, n, e, x.want)
		}
	}
}

// P6.3: the tones that can be at a place.
func TestCan(t *testing.T) {
	doubled := heard(entry(2, 6, 6, 7, 7, 3, 3, lost, lost))
	for _, x := range []struct {
		name  string
		s     api.KernelScale
		heard []api.KernelHeard
		place int
		want  []int
	}{
		{"doubled, at 0", example(), doubled, 0, of(1, 6)},
		{"doubled, at 1", example(), doubled, 1, of(2, 7)},
		{"doubled, at 2", example(), doubled, 2, of(3)},
		{"doubled, at 3", example(), doubled, 3, of(0, 1, 2, 3, 4, 5, 6, 7, 8, 9)},
		{"half", example(), heard(entry(1, lost, 0)), 3, of(0, 5)},
		{"half, ahead of it", example(), heard(entry(1, 2, 0)), 2, of(0, 1, 2, 3, 4, 5, 6, 7, 8, 9)},
		{"rests", poor(), heard(entry(0, rest, 5)), 0, of(0, 3, 4, 7, 8, 11)},
		{"beside a rest", poor(), heard(entry(0, rest, 5)), 1, of(1, 5, 9)},
		{"two entries", poor(), heard(entry(0, rest, 5), entry(1, lost, 3, lost, lost)), 0, of(3, 7, 11)},
		{"great, at the last", great(), heard(nothing(4, 8)), 15, of(0, 1, 2, 3, 4, 5, 6, 7, 8, 9, 10, 11, 12, 13, 14, 15, 16, 17, 18, 19, 20)},
		{"near alone", great(), heard(entry(0, append([]int{5}, slices.Repeat([]int{lost}, 31)...)...)), 0, of(20)},
	} {
		if c, e := kernel.Can(x.s, x.heard, x.place); !slices.Equal(c, x.want) || e != api.OK {
			t.Errorf("%s: %v, %d, not %v", x.name, c, e, x.want)
		}
	}
}

// P6.4: the kernel that is won back.
func TestWon(t *testing.T) {
	doubled := entry(2, 6, 6, 7, 7, 3, 3, lost, lost)
	for _, x := range []struct {
		name  string
		heard []api.KernelHeard
		want  []int
		e     api.Errno
	}{
		{"doubled", heard(doubled), nil, api.ErrKernelMany},
		{"doubled and in pairs", heard(doubled, entry(3, 1, lost, lost, 7, lost, lost, 3, 5)), of(1, 7, 3, 5), api.OK},
		{"plain and half", heard(entry(0, 1, 7, 3, 5), entry(1, 3, 0)), nil, api.ErrKernelFalse},
		{"plain", heard(entry(0, 9, 0, 0, 9)), of(9, 0, 0, 9), api.OK},
		{"in pairs, by turns", heard(entry(3, 5, lost, lost, 7, lost, 6, 7, lost)), of(5, 7, 7, 6), api.OK},
		{"all but one pair", heard(entry(0, 1, 7, lost, 5)), nil, api.ErrKernelMany},
		{"many, but none", heard(entry(0, lost, lost, lost, 10)), nil, api.ErrKernelFalse},
	} {
		if k, e := kernel.Won(example(), x.heard); !slices.Equal(k, x.want) || e != x.e {
			t.Errorf("%s: %v, %d, not %v, %d", x.name, k, e, x.want, x.e)
		}
	}
}

// P6.4: the strokes that are known although they were lost.
func TestFilled(t *testing.T) {
	doubled := entry(2, 6, 6, 7, 7, 3, 3, lost, lost)
	for _, x := range []struct {
		name  string
		s     api.KernelScale
		heard []api.KernelHeard
		want  [][]int
	}{
		{"doubled and in pairs", example(), heard(doubled, entry(3, 1, lost, lost, 7, lost, lost, 3, 5)),
			[][]int{of(6, 6, 7, 7, 3, 3, 5, 5), of(1, 7, 1, 7, 3, 5, 3, 5)}},
		{"doubled", example(), heard(doubled), [][]int{doubled.Strokes}},
		{"each second one", example(), heard(entry(2, 6, lost, lost, 7, lost, 3, lost, lost)), [][]int{doubled.Strokes}},
		{"nothing", example(), heard(nothing(3, 8)), [][]int{nothing(3, 8).Strokes}},
		{"the same in several kernels", example(), heard(entry(2, 6, lost, 7, lost, lost, 3, 5, 5), nothing(4, 8), nothing(1, 2), nothing(3, 8)),
			[][]int{of(6, 6, 7, 7, 3, 3, 5, 5), of(7, 6, 8, 7, 9, 8, 6, 5), of(2, 0), of(lost, lost, lost, lost, 3, lost, 3, lost)}},
		{"no other tones", small(), heard(nothing(0, 1)), [][]int{of(lost)}},
		{"rests", poor(), heard(entry(3, rest, lost, lost, 11), nothing(3, 4)), [][]int{of(rest, rest, 11, 11), of(rest, rest, 11, 11)}},
		{"near tones", poor(), heard(entry(1, lost, 3, 3, lost)), [][]int{of(rest, 3, 3, rest)}},
		{"a rest, or a tone", poor(), heard(entry(1, rest, lost, 3, lost)), [][]int{of(rest, lost, 3, rest)}},
		{"only one tone", scale(2, 1, 2, register(api.KernelPlain, 0, 0, 0)), heard(entry(0, 0, lost)), [][]int{of(0, lost)}},
	} {
		if f, e := kernel.Filled(x.s, x.heard); !slices.EqualFunc(f, x.want, slices.Equal) || e != api.OK {
			t.Errorf("%s: %v, %d, not %v", x.name, f, e, x.want)
		}
	}
}

// P6.5: how few strokes must have been heard wrongly.
func TestLeast(t *testing.T) {
	for _, x := range []struct {
		name  string
		s     api.KernelScale
		heard []api.KernelHeard
		want  int
	}{
		{"plain and half", example(), heard(entry(0, 1, 7, 3, 5), entry(1, 3, 0)), 1},
		{"none", example(), heard(entry(0, 1, 7, 3, 5)), 0},
		{"nothing was heard", example(), heard(nothing(0, 4), nothing(4, 8)), 0},
		{"tones that none has", example(), heard(entry(0, 10, 7, rest, 40)), 3},
		{"all", poor(), heard(entry(0, 1, 2), entry(3, 1, 2, 3, 4)), 6},
		{"one against two", example(), heard(entry(0, 1, 1, 1, 1), entry(0, 2, 1, 1, 1), entry(0, 1, 1, 1, 2)), 2},
		{"two against three", example(), heard(entry(0, 1, 1, 1, 3), entry(0, 2, 1, 1, 3), entry(0, 2, 1, 1, 4), entry(0, 1, 1, 1, 4), entry(0, 1, 1, 1, 4)), 4},
		{"told twice", example(), heard(entry(0, 10, lost, 3, lost), entry(0, 10, lost, 3, lost)), 2},
		{"doubled, and each otherwise", example(), heard(entry(2, 3, 4, 5, 6, 7, 8, 9, 3)), 4},
		{"near tones that are not near", example(), heard(entry(4, 7, 6, 8, 8, 9, 8, 5, 5)), 2},
		{"a rest for a tone", example(), heard(entry(3, 1, rest, 1, 7, rest, rest, 3, 5)), 3},
		{"great", great(), heard(entry(3, slices.Repeat([]int{21}, 32)...), entry(2, slices.Repeat([]int{rest}, 32)...)), 64},
	} {
		if n, e := kernel.Least(x.s, x.heard); n != x.want || e != api.OK {
			t.Errorf("%s: %d, %d, not %d", x.name, n, e, x.want)
		}
	}
}

// P6.6: the pairs of registers that are enough.
func TestPairs(t *testing.T) {
	half, low := register(api.KernelHalf, 0, 9, 0), register(api.KernelPlain, 0, 4, 0)
	for _, x := range []struct {
		name string
		s    api.KernelScale
		want [][2]int
	}{
		{"the example", example(), [][2]int{{0, 1}, {0, 2}, {0, 3}, {0, 4}, {2, 3}}},
		{"one register", scale(5, 1, 4, register(api.KernelPlain, 0, 4, 0)), nil},
		{"none", small(), nil},
		{"few tones", poor(), nil},
		{"halves", scale(5, 2, 4, half, half, half), nil},
		{"a half and low tones", scale(5, 2, 4, low, half), nil},
		{"low and high tones", scale(5, 2, 4, low, register(api.KernelPlain, 1, 9, 0)), nil},
		{"low tones, and tones in the middle", scale(2, 2, 2, register(api.KernelPlain, 0, 1, 0), register(api.KernelPlain, 1, 3, 0)), nil},
		{"low and high tones, all of them", scale(2, 2, 2, register(api.KernelPlain, 0, 2, 0), register(api.KernelPlain, 1, 3, 0)), [][2]int{{0, 1}}},
		{"a half helps", scale(2, 1, 2, register(api.KernelPlain, 0, 1, 0), register(api.KernelHalf, 0, 1, 0), register(api.KernelHalf, 0, 1, 0)), [][2]int{{0, 1}, {0, 2}}},
		{"a rest helps", scale(2, 1, 2, register(api.KernelPlain, 1, 1, 0), register(api.KernelHalf, 0, 1, 0)), [][2]int{{0, 1}}},
		{"great", great(), [][2]int{{0, 1}, {0, 2}, {0, 3}, {0, 4}, {1, 2}, {1, 3}, {1, 4}, {2, 3}, {2, 4}, {3, 4}}},
	} {
		if p, e := kernel.Pairs(x.s); !slices.Equal(p, x.want) || e != api.OK {
			t.Errorf("%s: %v, %d, not %v", x.name, p, e, x.want)
		}
	}
}

// P6.6: kernels that have the same parts.
func TestTwins(t *testing.T) {
	for name, s := range validScales() {
		enough, _ := kernel.Pairs(s)
		for one := range s.Registers {
			for other := range s.Registers {
				first, second, e := kernel.Twins(s, one, other)
				if one != other && (e == api.ErrNone) != slices.Contains(enough, [2]int{min(one, other), max(one, other)}) {
					t.Errorf("%s: Twins of %d and %d: %d, but Pairs are %v", name, one, other, e, enough)
				}
				if e == api.OK {
					wantTwins(t, s, first, second, one, other)
				}
			}
		}
	}
	first, second, e := kernel.Twins(example(), 2, 4)
	for i := range first {
		if d := first[i] - second[i]; d != 0 && d != 5 && d != -5 {
			t.Errorf("%v and %v are not apart by an octave", first, second)
		}
	}
	if e != api.OK {
		t.Errorf("Twins of 2 and 4: %d", e)
	}
	for one, want := range []api.Errno{api.ErrNone, api.OK, api.OK, api.OK, api.OK} {
		if _, _, e := kernel.Twins(example(), one, one); e != want {
			t.Errorf("Twins of %d alone: %d, not %d", one, e, want)
		}
	}
}

// wantTwins checks that two kernels differ, and have the same parts.
func wantTwins(t *testing.T, s api.KernelScale, first, second []int, registers ...int) {
	t.Helper()
	if slices.Equal(first, second) {
		t.Errorf("%v: the twins %v are the same", s, first)
	}
	for _, r := range registers {
		p, e := kernel.Part(s, first, r)
		q, f := kernel.Part(s, second, r)
		if !slices.Equal(p, q) || e != api.OK || f != api.OK {
			t.Errorf("%v: the parts of %d of the twins %v and %v: %v, %d, and %v, %d", s, r, first, second, p, e, q, f)
		}
	}
}

func copied(h []api.KernelHeard) []api.KernelHeard {
	h = slices.Clone(h)
	for i := range h {
		h[i].Strokes = slices.Clone(h[i].Strokes)
	}
	return h
}

// P6.7, R4: nothing of an argument is changed, nor what lies behind its lists.
func TestArguments(t *testing.T) {
	longer := append(example().Registers, register(9, 9, 9, 9))
	notes := of(1, 7, 3, 5, 9, 9)
	all := heard(entry(2, 6, 6, lost, 7, 3, 3, lost, lost, 9, 9), entry(3, 1, lost, lost, 7, lost, lost, lost, lost, 9, 9), entry(9))
	registers, tones, entries := slices.Clone(longer), slices.Clone(notes), copied(all)
	h := slices.Clone(all[:2])
	for i := range h {
		h[i].Strokes = all[i].Strokes[:8]
	}
	answers(scale(5, 2, 4, longer[:5]...), asking(func(q *question) { q.kernel, q.heard = notes[:4], h }))
	if !slices.Equal(longer, registers) || !slices.Equal(notes, tones) || !reflect.DeepEqual(all, entries) {
		t.Errorf("%v is %v, %v is %v, %v is %v", registers, longer, tones, notes, entries, all)
	}
}

// P6.7, R4: results share no memory, neither with each other nor with an argument or a later call.
func TestMemory(t *testing.T) {
	s := example()
	q := asking(func(q *question) { q.heard, q.register = heard(entry(0, 1, 7, 3, 5), entry(0, 1, 7, 3, 5)), 0 })
	want, _ := answers(s, q)
	p, _ := kernel.Part(s, q.kernel, 0)
	c, _ := kernel.Can(s, q.heard, 1)
	k, _ := kernel.Won(s, q.heard)
	f, _ := kernel.Filled(s, q.heard)
	all, _ := kernel.Pairs(s)
	first, second, _ := kernel.Twins(s, 2, 4)
	twin := slices.Clone(second)
	if len(p) == 0 || len(c) == 0 || len(k) == 0 || len(f) < 2 || len(all) == 0 || len(first) == 0 {
		t.Fatalf("%v, %v, %v, %v, %v, %v", p, c, k, f, all, first)
	}
	_ = append(f[0], -9, -9)
	for _, list := range [][]int{p, c, k, f[0], first, append(first, -9)} {
		for i := range list {
			list[i] = -9
		}
	}
	if !slices.Equal(f[1], of(1, 7, 3, 5)) || !slices.Equal(second, twin) {
		t.Errorf("%v, %v were changed by others", f[1], second)
	}
	all[0] = [2]int{-9, -9}
	f[1][0], second[0] = -9, -9
	if again, _ := answers(s, q); !reflect.DeepEqual(again, want) {
		t.Errorf("%v after results were changed, not %v", again, want)
	}
}

// R3: nil and empty are the same.
func TestNilAndEmpty(t *testing.T) {
	none := func(s *api.KernelScale) { s.Registers = nil }
	empty := func(s *api.KernelScale) { s.Registers = []api.KernelRegister{} }
	same := func(*api.KernelScale) {}
	for _, x := range [][2]func(*api.KernelScale){{none, empty}, {same, same}} {
		for _, lists := range [][2][]api.KernelHeard{{nil, {}}, {{{}}, {{Strokes: []int{}}}}, {{{Register: 1}}, {entry(1)}}} {
			one, e := answers(with(x[0]), asking(func(q *question) { q.heard, q.kernel = lists[0], nil }))
			other, f := answers(with(x[1]), asking(func(q *question) { q.heard, q.kernel = lists[1], []int{} }))
			if !reflect.DeepEqual(one, other) || e != f {
				t.Errorf("%v: %v, %v; %v: %v, %v", lists[0], one, e, lists[1], other, f)
			}
		}
	}
}

// P2: a call says the same, whatever was called before.
func TestSameAgain(t *testing.T) {
	scales := []api.KernelScale{example(), poor(), great(), small(), {}}
	for _, s := range scales {
		first, e := answers(s, ordinary())
		for _, between := range scales {
			answers(between, question{kernel: make([]int, 16), register: 1, one: 1, other: 0, heard: heard(nothing(0, 2)), place: 1})
		}
		if again, f := answers(s, ordinary()); e != f || e[pairs] == api.OK && !reflect.DeepEqual(first[pairs], again[pairs]) || !reflect.DeepEqual(first[:pairs], again[:pairs]) {
			t.Errorf("%v: %v, and then %v", s, first, again)
		}
	}
}
