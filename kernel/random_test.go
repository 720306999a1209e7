package kernel_test

import (
	"math"
	"math/rand/v2"
	"slices"
	"testing"

	"saron/api"
	"saron/kernel"
)

// The tests of this file hold the package against a plain search that takes each definition of the chapter word by word, with random scales of few kernels that are the same every time, and the properties of the chapter against scales of all sizes.

// randomScales calls the test with many valid scales, always the same ones.
func randomScales(seed uint64, many int, make func(r *rand.Rand) api.KernelScale, test func(r *rand.Rand, s api.KernelScale)) {
	r := rand.New(rand.NewPCG(seed, 6))
	for range many {
		test(r, make(r))
	}
}

// anyScale makes a scale of any size.
func anyScale(r *rand.Rand) api.KernelScale {
	return randomScale(r, 2+r.IntN(6), 1+r.IntN(3), 2+2*r.IntN(8))
}

// fewKernels makes a scale that has so few kernels that a plain search can go through all of them.
func fewKernels(r *rand.Rand) api.KernelScale {
	if r.IntN(2) == 0 {
		return randomScale(r, 2+r.IntN(6), 1+r.IntN(3), 2)
	}
	s := randomScale(r, 2, 1+r.IntN(2), 4)
	if r.IntN(3) == 0 {
		s = randomScale(r, 3+r.IntN(2), 1, 4)
	}
	return s
}

func randomScale(r *rand.Rand, tones, octaves, length int) api.KernelScale {
	s := scale(tones, octaves, length)
	for range 1 + r.IntN(5) {
		low, high := r.IntN(tones*octaves), r.IntN(tones*octaves)
		if r.IntN(3) == 0 {
			low, high = 0, tones*octaves-1
		}
		s.Registers = append(s.Registers, register(r.IntN(5), min(low, high), max(low, high), r.IntN(13)-6))
	}
	return s
}

func randomKernel(r *rand.Rand, s api.KernelScale) []int {
	var k []int
	for range s.Length {
		k = append(k, r.IntN(s.Tones*s.Octaves))
	}
	return k
}

// allKernels goes through all kernels of a scale, in their order.
func allKernels(s api.KernelScale) [][]int {
	all := [][]int{nil}
	for range s.Length {
		var longer [][]int
		for _, k := range all {
			for tone := range s.Tones * s.Octaves {
				longer = append(longer, append(slices.Clone(k), tone))
			}
		}
		all = longer
	}
	return all
}

// played takes the definition word by word.
func played(s api.KernelScale, register, number int) int {
	r := s.Registers[register]
	if r.Low <= number && number <= r.High {
		return number
	}
	for tone := r.Low; tone <= r.High; tone++ {
		for times := -20; times <= 20; times++ {
			if tone == number+times*s.Tones {
				return tone
			}
		}
	}
	return rest
}

// partOf takes the definition word by word.
func partOf(s api.KernelScale, k []int, register int) []int {
	var list []int
	step := s.Registers[register].Step
	for i := 0; i < len(k); i += 2 {
		a, b := k[i], k[i+1]
		switch s.Registers[register].Rule {
		case 0:
			list = append(list, b)
		case 1:
			list = append(list, a, b)
		case 2:
			list = append(list, a, a, b, b)
		case 3:
			list = append(list, a, b, a, b)
		case 4:
			list = append(list, a+step, a, b+step, b)
		}
	}
	for i, number := range list {
		list[i] = played(s, register, number)
	}
	return list
}

// wrongStrokes returns how many strokes that were heard are not those of a kernel.
func wrongStrokes(s api.KernelScale, h []api.KernelHeard, k []int) int {
	many := 0
	for _, entry := range h {
		for i, stroke := range partOf(s, k, entry.Register) {
			if entry.Strokes[i] != lost && entry.Strokes[i] != stroke {
				many++
			}
		}
	}
	return many
}

// heardOf returns all that is heard of random parts of a kernel, without some strokes that are lost.
func heardOf(r *rand.Rand, s api.KernelScale, k []int) []api.KernelHeard {
	var h []api.KernelHeard
	for range 1 + r.IntN(5) {
		n := r.IntN(len(s.Registers))
		h = append(h, entry(n, partOf(s, k, n)...))
	}
	share := r.IntN(11)
	for _, entry := range h {
		for i := range entry.Strokes {
			if r.IntN(10) < share {
				entry.Strokes[i] = lost
			}
		}
	}
	return h
}

// changed returns what was heard with one stroke changed to something else, which can be what it was.
func changed(r *rand.Rand, h []api.KernelHeard, to int) []api.KernelHeard {
	h = copied(h)
	entry := h[r.IntN(len(h))]
	entry.Strokes[r.IntN(len(entry.Strokes))] = to
	return h
}

// randomHeard is mostly what is heard of some kernel, sometimes with wrong strokes.
func randomHeard(r *rand.Rand, s api.KernelScale) []api.KernelHeard {
	h := heardOf(r, s, randomKernel(r, s))
	if r.IntN(2) == 0 {
		for range r.IntN(4) {
			h = changed(r, h, randomStroke(r, s))
		}
	}
	return h
}

func randomStroke(r *rand.Rand, s api.KernelScale) int {
	switch r.IntN(8) {
	case 0:
		return rest
	case 1:
		return r.IntN(41)
	}
	return r.IntN(s.Tones * s.Octaves)
}

// P6.1: the parts of all registers.
func TestAllParts(t *testing.T) {
	randomScales(1, 2000, anyScale, func(r *rand.Rand, s api.KernelScale) {
		if e := kernel.Check(s); e != api.OK {
			t.Fatalf("%v is not valid: %d", s, e)
		}
		k := randomKernel(r, s)
		for i := range s.Registers {
			if p, e := kernel.Part(s, k, i); !slices.Equal(p, partOf(s, k, i)) || e != api.OK {
				t.Fatalf("Part of %v, %v, %d: %v, %d, not %v", s, k, i, p, e, partOf(s, k, i))
			}
		}
	})
}

// fitting returns all kernels that fit, and how few strokes are wrong of any kernel.
func fitting(s api.KernelScale, h []api.KernelHeard) (fit [][]int, fewest int) {
	fewest = math.MaxInt
	for _, k := range allKernels(s) {
		wrong := wrongStrokes(s, h, k)
		fewest = min(fewest, wrong)
		if wrong == 0 {
			fit = append(fit, k)
		}
	}
	return fit, fewest
}

// P6.2 to P6.5: what fits what was heard.
func TestAllHeard(t *testing.T) {
	count := map[api.Errno]int{}
	far := 0
	randomScales(2, 1500, fewKernels, func(r *rand.Rand, s api.KernelScale) {
		h := randomHeard(r, s)
		fit, fewest := fitting(s, h)
		if n, e := kernel.Many(s, h); n != len(fit) || e != api.OK {
			t.Fatalf("Many of %v, %v: %d, %d, not %d", s, h, n, e, len(fit))
		}
		if n, e := kernel.Least(s, h); n != fewest || e != api.OK {
			t.Fatalf("Least of %v, %v: %d, %d, not %d", s, h, n, e, fewest)
		}
		if fewest > 1 {
			far++
		}
		e, more := api.OK, api.OK
		var only []int
		switch {
		case len(fit) == 0:
			e, more = api.ErrKernelFalse, api.ErrKernelFalse
		case len(fit) > 1:
			more = api.ErrKernelMany
		default:
			only = fit[0]
		}
		count[more]++
		if k, f := kernel.Won(s, h); !slices.Equal(k, only) || f != more {
			t.Fatalf("Won of %v, %v: %v, %d, not %v, %d", s, h, k, f, only, more)
		}
		for place := range s.Length {
			want := tonesAt(fit, place)
			if c, f := kernel.Can(s, h, place); !slices.Equal(c, want) || f != e {
				t.Fatalf("Can of %v, %v, %d: %v, %d, not %v, %d", s, h, place, c, f, want, e)
			}
		}
		want := filledWith(s, h, fit)
		if f, g := kernel.Filled(s, h); !slices.EqualFunc(f, want, slices.Equal) || g != e {
			t.Fatalf("Filled of %v, %v: %v, %d, not %v, %d", s, h, f, g, want, e)
		}
	})
	if count[api.OK] < 100 || count[api.ErrKernelFalse] < 100 || count[api.ErrKernelMany] < 100 || far < 50 {
		t.Errorf("so often one kernel fits, none or many: %v; %d times more than one stroke is wrong", count, far)
	}
}

func tonesAt(fit [][]int, place int) []int {
	var list []int
	for _, k := range fit {
		list = append(list, k[place])
	}
	slices.Sort(list)
	return slices.Compact(list)
}

// filledWith fills what was lost with the strokes that are the same in all kernels that fit.
func filledWith(s api.KernelScale, h []api.KernelHeard, fit [][]int) [][]int {
	if len(fit) == 0 {
		return nil
	}
	var all [][]int
	for _, entry := range h {
		strokes := slices.Clone(entry.Strokes)
		for i := range strokes {
			could := map[int]bool{}
			for _, k := range fit {
				could[partOf(s, k, entry.Register)[i]] = true
			}
			if strokes[i] == lost && len(could) == 1 {
				strokes[i] = partOf(s, fit[0], entry.Register)[i]
			}
		}
		all = append(all, strokes)
	}
	return all
}

// areApart reports whether no two kernels have the same parts in both registers.
func areApart(s api.KernelScale, one, other int) bool {
	type parts [16]int
	seen := map[parts]bool{}
	for _, k := range allKernels(s) {
		var p parts
		copy(p[:], partOf(s, k, one))
		copy(p[8:], partOf(s, k, other))
		if seen[p] {
			return false
		}
		seen[p] = true
	}
	return true
}

// P6.6: pairs that are enough, and twins.
func TestAllPairs(t *testing.T) {
	enough, few := 0, 0
	randomScales(3, 400, fewKernels, func(r *rand.Rand, s api.KernelScale) {
		var want [][2]int
		for one := range s.Registers {
			for other := range s.Registers {
				apart := areApart(s, one, other)
				if apart && one < other {
					want = append(want, [2]int{one, other})
				}
				first, second, e := kernel.Twins(s, one, other)
				if apart != (e == api.ErrNone) || apart != (len(first) == 0) || apart != (len(second) == 0) {
					t.Fatalf("Twins of %v, %d, %d: %v, %v, %d", s, one, other, first, second, e)
				}
				if !apart {
					few++
					wantTwins(t, s, first, second, one, other)
				}
			}
		}
		enough += len(want)
		if p, e := kernel.Pairs(s); !slices.Equal(p, want) || e != api.OK {
			t.Fatalf("Pairs of %v: %v, %d, not %v", s, p, e, want)
		}
	})
	if enough < 100 || few < 100 {
		t.Errorf("%d pairs are enough, %d are not", enough, few)
	}
}

// P6.8: registers play tones that they have, or rest; a doubled one each stroke of a plain one twice, a halved one each second of them.
func TestParts(t *testing.T) {
	rests := 0
	randomScales(4, 1000, anyScale, func(r *rand.Rand, s api.KernelScale) {
		low, high := s.Registers[0].Low, s.Registers[0].High
		s.Registers = append(s.Registers[:1], register(1, low, high, 0), register(2, low, high, 0), register(0, low, high, 0), register(3, low, high, 0))
		k := randomKernel(r, s)
		var parts [5][]int
		for i, register := range s.Registers {
			parts[i], _ = kernel.Part(s, k, i)
			for _, stroke := range parts[i] {
				if stroke == rest {
					rests++
				} else if stroke < register.Low || stroke > register.High {
					t.Fatalf("Part of %v, %v, %d: it has no %d", s, k, i, stroke)
				}
			}
		}
		plain, double, half, pair := parts[1], parts[2], parts[3], parts[4]
		if len(plain) != s.Length || len(double) != 2*len(plain) || 2*len(half) != len(plain) || len(pair) != len(double) {
			t.Fatalf("the parts of %v, %v: %v", s, k, parts)
		}
		for i, stroke := range plain {
			if double[2*i] != stroke || double[2*i+1] != stroke || i%2 == 1 && half[i/2] != stroke ||
				pair[i/2*4+i%2] != stroke || pair[i/2*4+i%2+2] != stroke {
				t.Fatalf("the parts of %v, %v: %v", s, k, parts)
			}
		}
	})
	if rests < 100 {
		t.Errorf("only %d rests", rests)
	}
}

// P6.9: what is heard of a kernel fits it, whatever strokes are lost.
func TestTrueKernels(t *testing.T) {
	alone := 0
	randomScales(5, 500, anyScale, func(r *rand.Rand, s api.KernelScale) {
		truly := randomKernel(r, s)
		h := heardOf(r, s, truly)
		n, e := kernel.Many(s, h)
		if n < 1 || n > api.KernelMany || e != api.OK {
			t.Fatalf("Many of %v, %v: %d, %d, but %v fits", s, h, n, e, truly)
		}
		for place, tone := range truly {
			if c, e := kernel.Can(s, h, place); !slices.Contains(c, tone) || !slices.IsSorted(c) || e != api.OK {
				t.Fatalf("Can of %v, %v, %d: %v, %d, but %v fits", s, h, place, c, e, truly)
			}
		}
		k, e := kernel.Won(s, h)
		if n == 1 && (!slices.Equal(k, truly) || e != api.OK) || n > 1 && (len(k) > 0 || e != api.ErrKernelMany) {
			t.Fatalf("Won of %v, %v: %v, %d, but %d fit, and %v does", s, h, k, e, n, truly)
		}
		if n == 1 {
			alone++
		}
		f, e := kernel.Filled(s, h)
		if len(f) != len(h) || e != api.OK {
			t.Fatalf("Filled of %v, %v: %v, %d", s, h, f, e)
		}
		for i, entry := range h {
			p := partOf(s, truly, entry.Register)
			for j, stroke := range f[i] {
				if stroke != p[j] && (stroke != lost || entry.Strokes[j] != lost || n == 1) || len(f[i]) != len(p) {
					t.Fatalf("Filled of %v, %v: %v, but %v fits", s, h, f, truly)
				}
			}
		}
		if n, e := kernel.Least(s, h); n != 0 || e != api.OK {
			t.Fatalf("Least of %v, %v: %d, %d, but %v fits", s, h, n, e, truly)
		}
	})
	if alone < 50 {
		t.Errorf("only %d kernels are won back", alone)
	}
}

// P6.9: from the parts of a pair that is told each kernel is won back; twins have the same parts, and neither is won back from these.
func TestWonFromPairs(t *testing.T) {
	enough, few := 0, 0
	randomScales(6, 200, anyScale, func(r *rand.Rand, s api.KernelScale) {
		list, _ := kernel.Pairs(s)
		for _, p := range list {
			enough++
			truly := randomKernel(r, s)
			h := heard(entry(p[0], partOf(s, truly, p[0])...), entry(p[1], partOf(s, truly, p[1])...))
			if k, e := kernel.Won(s, h); !slices.Equal(k, truly) || e != api.OK {
				t.Fatalf("Won of %v, %v: %v, %d, not %v", s, h, k, e, truly)
			}
		}
		one, other := r.IntN(len(s.Registers)), r.IntN(len(s.Registers))
		first, second, e := kernel.Twins(s, one, other)
		if e == api.ErrNone {
			return
		}
		few++
		wantTwins(t, s, first, second, one, other)
		h := heard(entry(one, partOf(s, first, one)...), entry(other, partOf(s, second, other)...))
		if k, e := kernel.Won(s, h); len(k) > 0 || e != api.ErrKernelMany {
			t.Fatalf("Won of %v, %v: %v, %d, but there are twins %v and %v", s, h, k, e, first, second)
		}
	})
	if enough < 100 || few < 100 {
		t.Errorf("%d pairs are enough, %d are not", enough, few)
	}
}

// P6.10: a stroke more that is lost takes no kernel away, an entry more adds none, and one that is told twice changes nothing.
func TestMoreHeard(t *testing.T) {
	more, fewer := 0, 0
	randomScales(7, 1000, anyScale, func(r *rand.Rand, s api.KernelScale) {
		h := randomHeard(r, s)
		n, _ := kernel.Many(s, h)
		without, e := kernel.Many(s, changed(r, h, lost))
		if without < n || e != api.OK {
			t.Fatalf("Many of %v, %v: %d; with a stroke more that is lost %d, %d", s, h, n, without, e)
		}
		if without > n {
			more++
		}
		if len(h) == api.KernelRegisters {
			return
		}
		with, e := kernel.Many(s, append(copied(h), randomHeard(r, s)[0]))
		if with > n || e != api.OK {
			t.Fatalf("Many of %v, %v: %d; with an entry more %d, %d", s, h, n, with, e)
		}
		if with < n {
			fewer++
		}
		again := append(copied(h), h[r.IntN(len(h))])
		if same, e := kernel.Many(s, again); same != n || e != api.OK {
			t.Fatalf("Many of %v, %v: %d; with an entry twice %d, %d", s, h, n, same, e)
		}
		place := r.IntN(s.Length)
		c, e := kernel.Can(s, h, place)
		if d, f := kernel.Can(s, again, place); !slices.Equal(c, d) || e != f {
			t.Fatalf("Can of %v, %v: %v, %d; with an entry twice %v, %d", s, h, c, e, d, f)
		}
	})
	if more < 50 || fewer < 100 {
		t.Errorf("%d times there are more kernels, %d times fewer", more, fewer)
	}
}

// P6.11: one stroke that is heard otherwise changes the least number by at most one.
func TestOneStroke(t *testing.T) {
	count := map[int]int{}
	randomScales(8, 1500, fewKernels, func(r *rand.Rand, s api.KernelScale) {
		h := randomHeard(r, s)
		n, _ := kernel.Least(s, h)
		other := changed(r, h, randomStroke(r, s))
		m, e := kernel.Least(s, other)
		if m < n-1 || m > n+1 || e != api.OK {
			t.Fatalf("Least of %v, %v: %d; of %v: %d, %d", s, h, n, other, m, e)
		}
		count[m-n]++
	})
	if count[-1] < 20 || count[0] < 100 || count[1] < 100 {
		t.Errorf("so often the least number changes: %v", count)
	}
}

// P6.11: without as many strokes as the least number some kernel fits; without fewer none does.
func TestWithoutWrong(t *testing.T) {
	some := 0
	randomScales(9, 600, fewKernels, func(r *rand.Rand, s api.KernelScale) {
		h := randomHeard(r, s)
		n, e := kernel.Least(s, h)
		if e != api.OK || n > 2 {
			return
		}
		left := [][]api.KernelHeard{h}
		for without := range n + 1 {
			fits := slices.ContainsFunc(left, func(h []api.KernelHeard) bool {
				m, _ := kernel.Many(s, h)
				return m > 0
			})
			if fits != (without == n) {
				t.Fatalf("Least of %v, %v: %d, but without %d strokes some kernel fits: %v", s, h, n, without, fits)
			}
			left = withoutOne(left)
		}
		if n > 0 {
			some++
		}
	})
	if some < 100 {
		t.Errorf("only %d times something is wrong", some)
	}
}

// withoutOne returns all that can be left of some things when one stroke more is lost.
func withoutOne(all [][]api.KernelHeard) [][]api.KernelHeard {
	var left [][]api.KernelHeard
	for _, h := range all {
		for i := range h {
			for j, stroke := range h[i].Strokes {
				if stroke != lost {
					fewer := copied(h)
					fewer[i].Strokes[j] = lost
					left = append(left, fewer)
				}
			}
		}
	}
	return left
}

// P6.12: with a register that has all tones and plays each one all kernels can be won back.
func TestFullRegister(t *testing.T) {
	randomScales(10, 500, anyScale, func(r *rand.Rand, s api.KernelScale) {
		full := r.IntN(len(s.Registers))
		s.Registers[full] = register(1+r.IntN(3), 0, s.Tones*s.Octaves-1, r.IntN(13)-6)
		list, e := kernel.Pairs(s)
		for other := range s.Registers {
			if other != full && !slices.Contains(list, [2]int{min(full, other), max(full, other)}) || e != api.OK {
				t.Fatalf("Pairs of %v: %v, %d, without %d and %d", s, list, e, full, other)
			}
			if first, second, e := kernel.Twins(s, full, other); e != api.ErrNone {
				t.Fatalf("Twins of %v, %d, %d: %v, %v, %d", s, full, other, first, second, e)
			}
		}
	})
}

// P1: no function panics or goes on for ever, whatever the arguments are.
func TestAnything(t *testing.T) {
	r := rand.New(rand.NewPCG(11, 6))
	odd := []int{math.MinInt, -7, -3, -2, -1, 0, 1, 2, 3, 5, 7, 15, 16, 21, 40, 41, math.MaxInt}
	some := func() int { return odd[r.IntN(len(odd))] }
	list := func(most int) []int {
		var l []int
		for range r.IntN(most) {
			l = append(l, some())
		}
		return l
	}
	for range 20000 {
		s := randomScale(r, 2+r.IntN(2), 1, 2+2*r.IntN(2))
		switch r.IntN(8) {
		case 0:
			s.Tones = some()
		case 1:
			s.Octaves = some()
		case 2:
			s.Length = some()
		case 3:
			s.Registers[r.IntN(len(s.Registers))] = register(some(), some(), some(), some())
		}
		q := question{kernel: list(6), register: some(), one: some(), other: some(), place: some()}
		for range r.IntN(4) {
			q.heard = append(q.heard, entry(some(), list(9)...))
		}
		isWrong := kernel.Check(s) != api.OK
		_, errors := answers(s, q)
		for i, e := range errors {
			if (e == api.ErrKernel) != isWrong {
				t.Fatalf("%v, %v: the error %d is %d", s, q, i, e)
			}
		}
	}
}
