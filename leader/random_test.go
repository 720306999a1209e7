package leader_test

import (
	"fmt"
	"math"
	"math/rand/v2"
	"reflect"
	"regexp"
	"slices"
	"strconv"
	"strings"
	"testing"

	"saron/api"
	"saron/drum"
	"saron/heard"
	"saron/leader"
	"saron/night"
	"saron/rasp"
	"saron/tune"
)

// The tests of this file hold a gang against plain books that take the tables of the chapter word by word, and against the properties of the chapter, with random setups and lines that are the same every time.

// randomSpan returns a span whose Low is one of so many numbers from low on, and that has up to so many numbers.
func randomSpan(r *rand.Rand, low, many, wide int) api.Span {
	low += r.IntN(many)
	return span(low, low+r.IntN(wide))
}

func randomNames(r *rand.Rand, many int) []string {
	all := names("a", "b", "ab", "ba", "a-1", "b0", "hear", "pay", "abcdefghijklmnop", "gong")
	r.Shuffle(len(all), func(i, j int) { all[i], all[j] = all[j], all[i] })
	return all[:many]
}

func randomSet(r *rand.Rand, keys int) api.TuneSet {
	for {
		s := api.TuneSet{Beat: randomSpan(r, 0, 6, 8)}
		for range keys {
			s.Heard = append(s.Heard, randomSpan(r, 100, 20, 12))
		}
		if scale := r.Perm(keys)[:r.IntN(keys+1)]; len(scale) > 0 {
			x := api.TuneScale{Keys: scale}
			for range len(scale) - 1 {
				x.Steps = append(x.Steps, randomSpan(r, 850, 250, 100))
			}
			s.Scales = append(s.Scales, x)
		}
		for range r.IntN(4) {
			s.Pairs = append(s.Pairs, [2]int{r.IntN(keys), r.IntN(keys)})
		}
		if tune.Check(s) == api.OK {
			return s
		}
	}
}

func randomShop(r *rand.Rand, keys int) api.RaspShop {
	s := api.RaspShop{Fine: randomSpan(r, -3, 5, 6)}
	for range 1 + r.IntN(4) {
		s.Tools = append(s.Tools, api.RaspTool{Move: randomSpan(r, -7, 13, 4), Cost: 1 + r.IntN(3)})
	}
	for range keys {
		s.Keys = append(s.Keys, api.RaspKey{Now: randomSpan(r, -12, 16, 10), Metal: r.IntN(20)})
	}
	return s
}

func randomTones(r *rand.Rand, many int) []int {
	var l []int
	for range 1 + r.IntN(many) {
		l = append(l, r.IntN(4))
	}
	return l
}

func randomBook(r *rand.Rand, pieces int) api.HeardBook {
	b := api.HeardBook{Forms: example().Book.Forms}
	for range pieces {
		b.Pieces = append(b.Pieces, api.HeardPiece{Form: r.IntN(2), Tones: randomTones(r, 9)})
	}
	return b
}

// randomDrum returns a book that has a plan.
func randomDrum(r *rand.Rand) api.DrumBook {
	for {
		b := api.DrumBook{Parts: 1 + r.IntN(4), Size: 1 + r.IntN(4), Start: r.IntN(4), End: r.IntN(4), Time: randomSpan(r, 0, 100, 200), Slip: randomSpan(r, 0, 3, 3), Notice: 1}
		for range 4 {
			b.Beats = append(b.Beats, 1+r.IntN(20))
		}
		for range 1 + r.IntN(2) {
			p := api.DrumPlayer{Late: randomSpan(r, 0, 3, 3)}
			for range 4 {
				p.Catch = append(p.Catch, randomSpan(r, 0, 3, 3))
			}
			b.Players = append(b.Players, p)
		}
		if _, e := drum.Plan(b); e == api.OK {
			return b
		}
	}
}

// randomNight returns a book of which some choice fits, and of which all players can be paid.
func randomNight(r *rand.Rand) api.NightBook {
	for {
		b := api.NightBook{Begin: r.IntN(20), Fee: r.IntN(400), Cart: 20, Cost: r.IntN(30), Feast: r.IntN(9)}
		for part := range 3 {
			b.Opens = append(b.Opens, part*r.IntN(30))
			b.Ends = append(b.Ends, 20+part*20+r.IntN(30))
		}
		part := 0
		for range 1 + r.IntN(5) {
			part = min(2, part+r.IntN(2))
			b.Scenes = append(b.Scenes, api.NightScene{Part: part, Weight: r.IntN(4), Long: randomSpan(r, 0, 15, 8), Must: r.IntN(4) == 0})
		}
		for range r.IntN(5) {
			b.Loads = append(b.Loads, 1+r.IntN(20))
		}
		for range 1 + r.IntN(12) {
			b.Shares = append(b.Shares, 1+r.IntN(5))
		}
		_, e := night.Leave(b)
		if _, f := night.Pay(b); e == api.OK && f == api.OK {
			return b
		}
	}
}

func randomSetup(r *rand.Rand) api.LeaderSetup {
	keys, pieces := 1+r.IntN(6), 1+r.IntN(6)
	return api.LeaderSetup{
		Keys: randomNames(r, keys), Set: randomSet(r, keys), Shop: randomShop(r, keys),
		Pieces: randomNames(r, pieces), Book: randomBook(r, pieces), Drum: randomDrum(r), Night: randomNight(r),
	}
}

// books is what a gang has, and all plans of its drum.
type books struct {
	api.LeaderSetup
	plans                   [][]int
	keys                    []api.LeaderKey
	notes                   []api.HeardNote
	path, done, played, got []int
	cycles, nights          int
	journal                 []string
}

func newBooks(s api.LeaderSetup) *books {
	b := &books{LeaderSetup: s, played: make([]int, len(s.Pieces)), got: make([]int, len(s.Night.Shares))}
	for _, key := range s.Shop.Keys {
		b.keys = append(b.keys, api.LeaderKey{Metal: key.Metal})
	}
	paths := [][]int{nil}
	for range s.Drum.Parts {
		var longer [][]int
		for _, path := range paths {
			for density := range 4 {
				longer = append(longer, append(slices.Clone(path), density))
			}
		}
		paths = longer
	}
	for _, path := range paths {
		if is, _ := drum.IsPlan(s.Drum, path); is {
			b.plans = append(b.plans, path)
		}
	}
	return b
}

// shown is what the function of this name shows of a gang.
func (b *books) shown() string {
	return fmt.Sprintf("keys %v notes %v path %v done %v played %v got %v counts %d %d journal %s file %s", b.keys, b.notes, b.path, b.done, b.played, b.got, b.cycles, b.nights, strings.Join(b.journal, "|"), fileOf(b.journal...))
}

// may returns all densities that the next part can have.
func (b *books) may() []int {
	var l []int
	for density := range 4 {
		begin := append(slices.Clone(b.path), density)
		if slices.ContainsFunc(b.plans, func(plan []int) bool { return slices.Equal(plan[:len(begin)], begin) }) {
			l = append(l, density)
		}
	}
	return l
}

// pieces returns the numbers of the pieces that all notes fit.
func (b *books) pieces() []int {
	var l []int
	for piece := range b.Pieces {
		if !slices.ContainsFunc(b.notes, func(n api.HeardNote) bool {
			fits, _ := heard.Fits(b.Book, piece, n)
			return !fits
		}) {
			l = append(l, piece)
		}
	}
	return l
}

// canEnd tells whether there are scenes to be left out so that all parts end in time, if each scene takes as long as this, those that are done and others at the worst.
func canEnd(b api.NightBook, done []int) bool {
	if len(done) < len(b.Scenes) {
		s := b.Scenes[len(done)]
		return canEnd(b, append(slices.Clone(done), s.Long.High)) || !s.Must && canEnd(b, append(slices.Clone(done), api.NightLeft))
	}
	now := b.Begin
	for part := range 3 {
		now = max(now, b.Opens[part])
		for number, s := range b.Scenes {
			if s.Part == part && done[number] != api.NightLeft {
				now += done[number]
			}
		}
		if now > b.Ends[part] {
			return false
		}
	}
	return true
}

var wordForms = map[string]string{
	"hear": " name signed", "stroke": " name signed", "note": " number number tones", "piece": " name", "part": " number", "scene": " number", "leave": "", "pay": "",
	"tool": " name", "off": " name", "pitch": " name", "even": "", "wrong": "", "pieces": "", "read": " name number number", "may": "", "cue": "",
	"spare": "", "played": " name", "got": " number", "cycles": "", "nights": "",
}

// wordPatterns returns what a line of each word is like.
func wordPatterns() map[string]*regexp.Regexp {
	tokens := strings.NewReplacer("name", "([^ ]+)", "signed", "(0|-?[1-9][0-9]{0,5})", "number", "(0|[1-9][0-9]{0,5})", "tones", "([0-6]{1,24})")
	patterns := map[string]*regexp.Regexp{}
	for word, form := range wordForms {
		patterns[word] = regexp.MustCompile(`\A` + word + tokens.Replace(form) + `\z`)
	}
	return patterns
}

func isChange(word string) bool {
	return slices.Contains(names("hear", "stroke", "note", "piece", "part", "scene", "leave", "pay"), word)
}

func spaced(list []int) string {
	if len(list) == 0 {
		return "-"
	}
	return strings.Trim(fmt.Sprint(list), "[]")
}

func spacedNames(all []string, list []int) string {
	var l []string
	for _, number := range list {
		l = append(l, all[number])
	}
	if len(l) == 0 {
		return "-"
	}
	return strings.Join(l, " ")
}

// do does a line as the tables say.
func (b *books) do(patterns map[string]*regexp.Regexp, line string) (answer string, e api.Errno) {
	word, _, _ := strings.Cut(line, " ")
	pattern, isKnown := patterns[word]
	if !isKnown || len(line) > 200 {
		return "", api.ErrLeaderLine
	}
	groups := pattern.FindStringSubmatch(line)
	if groups == nil {
		return "", api.ErrLeaderLine
	}
	if !isChange(word) {
		return b.ask(word, groups[1:])
	}
	if len(b.journal) == 300 {
		return "", api.ErrFull
	}
	answer, e = b.change(word, groups[1:])
	if e == api.OK {
		b.journal = append(b.journal, line)
	}
	return answer, e
}

// told returns the numbers of tokens, 0 for those that are none.
func told(tokens []string) []int {
	var l []int
	for _, token := range tokens {
		n, _ := strconv.Atoi(token)
		l = append(l, n)
	}
	return l
}

func (b *books) change(word string, tokens []string) (string, api.Errno) {
	numbers := told(tokens)
	switch word {
	case "hear":
		return b.hear(slices.Index(b.Keys, tokens[0]), numbers[1])
	case "stroke":
		return b.stroke(slices.Index(b.Keys, tokens[0]), numbers[1])
	case "note":
		if max(numbers[0], numbers[1]) > 6 {
			return "", api.ErrRange
		}
		if len(b.notes) == 6 {
			return "", api.ErrFull
		}
		b.notes = append(b.notes, api.HeardNote{Tones: told(strings.Split(tokens[2], "")), Lost: numbers[0], Wrong: numbers[1]})
		return fmt.Sprint(len(b.notes)), api.OK
	case "piece":
		piece := slices.Index(b.Pieces, tokens[0])
		if piece < 0 {
			return "", api.ErrLeaderUnknown
		}
		if !slices.Contains(b.pieces(), piece) {
			return "", api.ErrLeaderFalse
		}
		b.notes = nil
		b.played[piece]++
		return fmt.Sprint(b.played[piece]), api.OK
	case "part":
		if numbers[0] > 3 {
			return "", api.ErrRange
		}
		if !slices.Contains(b.may(), numbers[0]) {
			return "", api.ErrLeaderFalse
		}
		if b.path = append(b.path, numbers[0]); len(b.path) == b.Drum.Parts {
			b.path = nil
			b.cycles++
		}
		return fmt.Sprint(b.cycles), api.OK
	case "scene":
		return b.scene(false, numbers[0])
	case "leave":
		return b.scene(true, api.NightLeft)
	}
	if len(b.done) < len(b.Night.Scenes) {
		return "", api.ErrLeaderEarly
	}
	b.done = nil
	b.nights++
	paid, _ := night.Pay(b.Night)
	for player, coins := range paid {
		b.got[player] += coins
	}
	return fmt.Sprint(b.nights), api.OK
}

func (b *books) hear(key, off int) (string, api.Errno) {
	if key < 0 {
		return "", api.ErrLeaderUnknown
	}
	if b.keys[key].Heard {
		return "", api.ErrLeaderTwice
	}
	if now := b.Shop.Keys[key].Now; off < now.Low || off > now.High {
		return "", api.ErrRange
	}
	b.keys[key].Heard, b.keys[key].Off = true, off
	_, strokes, e := rasp.Next(b.Shop, off, b.keys[key].Metal)
	if e != api.OK {
		return "-", api.OK
	}
	return fmt.Sprint(strokes), api.OK
}

func (b *books) stroke(key, move int) (string, api.Errno) {
	if key < 0 {
		return "", api.ErrLeaderUnknown
	}
	k := b.keys[key]
	if !k.Heard {
		return "", api.ErrLeaderMute
	}
	number, _, e := rasp.Next(b.Shop, k.Off, k.Metal)
	if e != api.OK || k.Off >= b.Shop.Fine.Low && k.Off <= b.Shop.Fine.High {
		return "", api.ErrNone
	}
	tool := b.Shop.Tools[number]
	if move < tool.Move.Low || move > tool.Move.High {
		return "", api.ErrRange
	}
	b.keys[key] = api.LeaderKey{Heard: true, Off: k.Off + move, Metal: k.Metal - tool.Cost, Strokes: k.Strokes + 1}
	return fmt.Sprint(number, k.Off+move), api.OK
}

func (b *books) scene(leave bool, minutes int) (string, api.Errno) {
	if len(b.done) == len(b.Night.Scenes) {
		return "", api.ErrNone
	}
	s := b.Night.Scenes[len(b.done)]
	if leave && s.Must || !leave && (minutes < s.Long.Low || minutes > s.Long.High) {
		return "", api.ErrRange
	}
	done := append(slices.Clone(b.done), minutes)
	if !canEnd(b.Night, done) {
		return "", api.ErrLeaderFalse
	}
	b.done = done
	return fmt.Sprint(len(done)), api.OK
}

func (b *books) ask(word string, tokens []string) (string, api.Errno) {
	numbers := told(tokens)
	key, piece := -1, -1
	if len(tokens) > 0 {
		key, piece = slices.Index(b.Keys, tokens[0]), slices.Index(b.Pieces, tokens[0])
	}
	isOfKey, isOfPiece := slices.Contains(names("tool", "off", "pitch"), word), slices.Contains(names("read", "played"), word)
	if isOfKey && key < 0 || isOfPiece && piece < 0 {
		return "", api.ErrLeaderUnknown
	}
	if (word == "tool" || word == "off") && !b.keys[key].Heard {
		return "", api.ErrLeaderMute
	}
	switch word {
	case "tool":
		tool, strokes, e := rasp.Next(b.Shop, b.keys[key].Off, b.keys[key].Metal)
		if e != api.OK {
			return "", api.ErrNone
		}
		return fmt.Sprint(tool, strokes), api.OK
	case "off":
		return fmt.Sprint(b.keys[key].Off, b.keys[key].Metal, b.keys[key].Strokes), api.OK
	case "pitch":
		return ends(tune.Pitch(b.Set, key))
	case "even":
		return ends(tune.Even(b.Set))
	case "wrong":
		wrong, _ := tune.Wrong(b.Set)
		return spacedNames(b.Keys, wrong), api.OK
	case "pieces":
		return spacedNames(b.Pieces, b.pieces()), api.OK
	case "read":
		if numbers[1] >= len(b.notes) || numbers[2] >= len(b.notes[numbers[1]].Tones) {
			return "", api.ErrRange
		}
		strokes, _ := heard.Strokes(b.Book, piece, b.notes[numbers[1]], numbers[2])
		return spaced(strokes), api.OK
	case "may":
		return spaced(b.may()), api.OK
	case "cue":
		scenes, _ := night.Cue(b.Night, b.done)
		return spaced(scenes), api.OK
	case "spare":
		minutes, _ := night.Spare(b.Night)
		return fmt.Sprint(minutes), api.OK
	case "played":
		return fmt.Sprint(b.played[piece]), api.OK
	case "got":
		if numbers[0] >= len(b.got) {
			return "", api.ErrRange
		}
		return fmt.Sprint(b.got[numbers[0]]), api.OK
	case "cycles":
		return fmt.Sprint(b.cycles), api.OK
	}
	return fmt.Sprint(b.nights), api.OK
}

func ends(s api.Span, e api.Errno) (string, api.Errno) {
	if e != api.OK {
		return "", api.ErrNone
	}
	return fmt.Sprint(s.Low, s.High), api.OK
}

func one[E any](r *rand.Rand, list []E) E { return list[r.IntN(len(list))] }

// randomLine returns a line that mostly has the form, and often does something.
func (b *books) randomLine(r *rand.Rand) string {
	key, piece := r.IntN(len(b.Keys)), one(r, b.Pieces)
	name := b.Keys[key]
	if r.IntN(12) == 0 {
		name, piece = "nobody", "nothing"
	}
	switch r.IntN(14) {
	case 0:
		now := b.Shop.Keys[key].Now
		return fmt.Sprint("hear ", name, " ", now.Low-1+r.IntN(now.High-now.Low+3))
	case 1, 2:
		move := one(r, b.Shop.Tools).Move
		return fmt.Sprint("stroke ", name, " ", move.Low-1+r.IntN(move.High-move.Low+3))
	case 3:
		tones := one(r, b.Book.Pieces).Tones
		first := r.IntN(len(tones))
		return "note " + strconv.Itoa(r.IntN(8)) + " " + strconv.Itoa(r.IntN(3)) + " " + strings.ReplaceAll(spaced(tones[first:first+1+r.IntN(len(tones)-first)]), " ", "")
	case 4:
		return fmt.Sprint("note ", r.IntN(2), " ", r.IntN(8), " ", strings.ReplaceAll(spaced(randomTones(r, 4)), " ", ""))
	case 5:
		return "piece " + piece
	case 6, 7:
		return fmt.Sprint("part ", r.IntN(5))
	case 8, 9:
		long := b.Night.Scenes[len(b.done)%len(b.Night.Scenes)].Long
		return fmt.Sprint("scene ", max(0, long.Low-1+r.IntN(long.High-long.Low+3)))
	case 10:
		return "leave"
	case 11:
		return "pay"
	}
	tokens := strings.Fields(one(r, names("tool name", "off name", "pitch name", "even", "wrong", "pieces", "read piece number number", "may", "cue", "spare", "played piece", "got number", "cycles", "nights")))
	for i, token := range tokens[1:] {
		switch token {
		case "name":
			tokens[i+1] = name
		case "piece":
			tokens[i+1] = piece
		case "number":
			tokens[i+1] = strconv.Itoa(r.IntN(4 + 9*r.IntN(2)))
		}
	}
	return strings.Join(tokens, " ")
}

// spoiled returns a line after a few changes, which mostly take away its form, or a name.
func spoiled(r *rand.Rand, line string) string {
	l := []byte(line)
	for range 1 + r.IntN(2) {
		at := r.IntN(len(l) + 1)
		switch r.IntN(4) {
		case 0:
			l = slices.Insert(l, at, one(r, []byte(" 019-ax\n\x00\xff")))
		case 1:
			l = l[:at]
		case 2:
			l = append(l, l[:at]...)
		case 3:
			if at < len(l) {
				l = slices.Delete(l, at, at+1)
			}
		}
	}
	return string(l)
}

// wordOf is the word of a line that the chapter knows, or nothing.
func wordOf(line string) string {
	word, _, _ := strings.Cut(line, " ")
	if _, isKnown := wordForms[word]; !isKnown {
		return ""
	}
	return word
}

// seasons calls the test with many gangs, always the same ones, each with plain books of the same setup.
func seasons(t *testing.T, seed uint64, many int, test func(r *rand.Rand, b *books, g *leader.Gang)) {
	t.Helper()
	r := rand.New(rand.NewPCG(seed, 11))
	for range many {
		s := randomSetup(r)
		test(r, newBooks(s), started(t, s))
	}
}

// P11.2, P11.3, P11.7, P11.11: whatever is said, a gang answers as the tables say, and has what they say; each error of each line is met.
func TestAllLines(t *testing.T) {
	patterns := wordPatterns()
	met := map[string]int{}
	seasons(t, 1, 400, func(r *rand.Rand, b *books, g *leader.Gang) {
		if r.IntN(4) == 0 {
			// The journal is full soon.
			for range 250 + r.IntN(50) {
				line := "piece " + one(r, b.Pieces)
				b.do(patterns, line)
				does(t, g, line)
			}
		}
		before := shown(g)
		for range 150 {
			line := b.randomLine(r)
			if r.IntN(8) == 0 {
				line = spoiled(r, line)
			}
			want, e := b.do(patterns, line)
			if answer, f := g.Do(line); answer != want || f != e {
				t.Fatalf("%q of %+v with %s: %q, %d, not %q, %d", line, b.LeaderSetup, before, answer, f, want, e)
			}
			after := shown(g)
			if should := b.shown(); after != should {
				t.Fatalf("%q of %+v with %s leads to %s, not %s", line, b.LeaderSetup, before, after, should)
			}
			if (e != api.OK || !isChange(wordOf(line))) && after != before {
				t.Fatalf("%q changed %s to %s", line, before, after)
			}
			before = after
			met[fmt.Sprint(wordOf(line), " ", int(e))]++
			if want == "-" {
				met[wordOf(line)+" -"]++
			}
		}
	})
	for _, x := range names(
		"hear 0", "hear 111", "hear 114", "hear 7", "hear 6", "hear 110", "hear -", "stroke 0", "stroke 111", "stroke 113", "stroke 4", "stroke 7", "stroke 6", "stroke 110",
		"note 0", "note 7", "note 6", "note 110", "piece 0", "piece 111", "piece 112", "piece 6", "part 0", "part 7", "part 112", "part 6", "part 110",
		"scene 0", "scene 4", "scene 7", "scene 112", "scene 6", "scene 110", "leave 0", "leave 4", "leave 7", "leave 6", "leave 110", "pay 0", "pay 115", "pay 6", "pay 110",
		"tool 0", "tool 111", "tool 113", "tool 4", "off 0", "off 111", "off 113", "pitch 0", "pitch 111", "pitch 4", "even 0", "even 4", "wrong 0", "wrong -", "pieces 0", "pieces -",
		"read 0", "read 111", "read 7", "read -", "read 110", "may 0", "cue 0", "cue -", "spare 0", "played 0", "played 111", "got 0", "got 7", "got 110", "cycles 0", "nights 0", " 110",
	) {
		if met[x] == 0 {
			t.Errorf("%q was never met", x)
		}
	}
}

// P11.4, P11.6: THE SEASON: a gang of a file is the same as the one that the file is of, and goes on just so.
func TestSeason(t *testing.T) {
	long := 0
	seasons(t, 2, 150, func(r *rand.Rand, b *books, g *leader.Gang) {
		patterns := wordPatterns()
		for range r.IntN(600) {
			line := b.randomLine(r)
			b.do(patterns, line)
			g.Do(line)
		}
		file, before := g.File(), shown(g)
		again, at, e := leader.Open(b.LeaderSetup, file)
		if e != api.OK || at != len(g.Journal()) || shown(again) != before || again.File() != file {
			t.Fatalf("Open of %q: %d, %d", file, at, e)
		}
		for range 40 {
			line := b.randomLine(r)
			b.do(patterns, line)
			one, e := g.Do(line)
			if other, f := again.Do(line); one != other || e != f || shown(g) != shown(again) {
				t.Fatalf("%q of the gang of %q: %q, %d, not %q, %d", line, file, other, f, one, e)
			}
		}
		if at > 50 {
			long++
		}
	})
	if long < 50 {
		t.Errorf("%d files of more than 50 lines", long)
	}
}

// P11.4: of a file that has been changed, the first line that is an error is told, or that asks.
func TestChangedFiles(t *testing.T) {
	patterns := wordPatterns()
	met := map[api.Errno]int{}
	seasons(t, 3, 600, func(r *rand.Rand, b *books, g *leader.Gang) {
		var lines []string
		for range r.IntN(30) {
			line := b.randomLine(r)
			if _, e := b.do(patterns, line); e == api.OK && isChange(wordOf(line)) || r.IntN(20) == 0 {
				lines = append(lines, line)
			}
		}
		file := fileOf(lines...)
		if r.IntN(2) == 0 && file != "" {
			file = spoiled(r, file)
		}
		want, number := newBooks(b.LeaderSetup), 0
		var e api.Errno
		if file != "" && !strings.HasSuffix(file, "\n") {
			e = api.ErrForm
		}
		for rest := file; rest != "" && e == api.OK; {
			line, behind, _ := strings.Cut(rest, "\n")
			_, e = want.do(patterns, line)
			if e != api.ErrLeaderLine && !isChange(wordOf(line)) {
				e = api.ErrLeaderLine
			}
			if e == api.OK {
				number++
			}
			rest = behind
		}
		g, at, f := leader.Open(b.LeaderSetup, file)
		if at != number || f != e || (g != nil) != (e == api.OK) {
			t.Fatalf("Open of %q: %v, %d, %d, not %d, %d", file, g != nil, at, f, number, e)
		}
		if e == api.OK && shown(g) != want.shown() {
			t.Fatalf("Open of %q: %s, not %s", file, shown(g), want.shown())
		}
		met[e]++
	})
	for _, e := range []api.Errno{api.OK, api.ErrForm, api.ErrLeaderLine, api.ErrLeaderFalse, api.ErrRange} {
		if met[e] < 5 {
			t.Errorf("the error %d was met %d times", e, met[e])
		}
	}
}

// asks does a line that is no error, and returns the numbers of its answer.
func asks(t *testing.T, g *leader.Gang, line string) []int {
	t.Helper()
	answer, e := g.Do(line)
	if e != api.OK {
		t.Fatalf("%q: %d", line, e)
	}
	if answer == "-" {
		return nil
	}
	return told(strings.Split(answer, " "))
}

// P11.8: THE KEYS: whatever strokes truly do, no more are made than were told, and metal is taken, or left.
func TestTheKeys(t *testing.T) {
	tuned, worst := 0, 0
	seasons(t, 4, 600, func(r *rand.Rand, b *books, g *leader.Gang) {
		for key, name := range b.Keys {
			now := b.Shop.Keys[key].Now
			most := asks(t, g, fmt.Sprintf("hear %s %d", name, now.Low+r.IntN(now.High-now.Low+1)))
			if most == nil {
				continue
			}
			taken, strokes := 0, 0
			for {
				plan := asks(t, g, "tool "+name)
				if plan[1] > most[0]-strokes {
					t.Fatalf("%s of %v: %d strokes behind %d, but %d were told", name, b.Shop, plan[1], strokes, most[0])
				}
				is := asks(t, g, "off "+name)
				if is[1] < 0 || is[1]+taken != b.Shop.Keys[key].Metal || is[2] != strokes {
					t.Fatalf("%s of %v: %v behind %d strokes that took %d", name, b.Shop, is, strokes, taken)
				}
				if plan[0] < 0 {
					if is[0] < b.Shop.Fine.Low || is[0] > b.Shop.Fine.High || plan[1] != 0 {
						t.Fatalf("%s of %v: %v, %v", name, b.Shop, plan, is)
					}
					break
				}
				tool := b.Shop.Tools[plan[0]]
				move := tool.Move.Low + r.IntN(tool.Move.High-tool.Move.Low+1)
				if end := asks(t, g, fmt.Sprintf("stroke %s %d", name, move)); end[0] != plan[0] || end[1] != is[0]+move {
					t.Fatalf("%s of %v: %v, behind %v with %d", name, b.Shop, end, is, move)
				}
				taken += tool.Cost
				strokes++
			}
			tuned += min(1, strokes)
			if strokes == most[0] {
				worst++
			}
		}
	})
	if tuned < 200 || worst < 100 {
		t.Errorf("%d keys were tuned, %d with as many strokes as were told", tuned, worst)
	}
}

// P11.9: THE GREAT GONG: whichever densities are taken of those that can be, the path becomes a plan.
func TestTheGreatGong(t *testing.T) {
	several := 0
	seasons(t, 5, 400, func(r *rand.Rand, b *books, g *leader.Gang) {
		var path []int
		for part := range 3 * b.Drum.Parts {
			may := asks(t, g, "may")
			if len(may) == 0 {
				t.Fatalf("no part behind %v of %v", path, b.Drum)
			}
			if len(may) > 1 {
				several++
			}
			if part%b.Drum.Parts == 0 {
				path = nil
			}
			path = append(path, one(r, may))
			if cycles := asks(t, g, fmt.Sprint("part ", path[len(path)-1])); cycles[0] != (part+1)/b.Drum.Parts {
				t.Fatalf("%d cycles behind %d parts of %v", cycles[0], part+1, b.Drum)
			}
			if len(path) == b.Drum.Parts {
				if is, e := drum.IsPlan(b.Drum, path); !is || e != api.OK {
					t.Fatalf("%v is no plan of %v", path, b.Drum)
				}
			} else if is := g.Path(); !slices.Equal(is, path) {
				t.Fatalf("Path: %v, not %v", is, path)
			}
		}
	})
	if several < 50 {
		t.Errorf("%d times there are several densities", several)
	}
}

// P11.9: what cues leave out can be left out, and what they do not can be played, however long it truly takes; each part ends in time then.
func TestTheNight(t *testing.T) {
	left := 0
	seasons(t, 6, 400, func(r *rand.Rand, b *books, g *leader.Gang) {
		for range 2 {
			for number, s := range b.Night.Scenes {
				cue := asks(t, g, "cue")
				line := fmt.Sprint("scene ", s.Long.Low+r.IntN(s.Long.High-s.Long.Low+1))
				if slices.Contains(cue, number) {
					line = "leave"
					left++
				}
				if done := asks(t, g, line); done[0] != number+1 {
					t.Fatalf("%v behind %d scenes of %v", done, number, b.Night)
				}
				if !canEnd(b.Night, g.Done()) {
					t.Fatalf("no choice fits behind %v of %v", g.Done(), b.Night)
				}
			}
			asks(t, g, "pay")
		}
	})
	if left < 100 {
		t.Errorf("%d scenes were left out", left)
	}
}

// P11.10: THE PAY: what all players got is as often what is left of the fee as nights were played.
func TestThePay(t *testing.T) {
	paid := 0
	seasons(t, 7, 300, func(r *rand.Rand, b *books, g *leader.Gang) {
		carts, e := night.Carts(b.Night)
		if e != api.OK {
			t.Fatalf("Carts: %d", e)
		}
		rest := b.Night.Fee - len(carts)*b.Night.Cost - len(b.Night.Shares)*b.Night.Feast
		for range 100 {
			line := one(r, names("scene 5", "scene 9", "scene 14", "leave", "pay", "got 0"))
			if r.IntN(2) == 0 {
				line = b.randomLine(r)
			}
			g.Do(line)
			b.done = g.Done()
			sum := 0
			for player, coins := range g.Got() {
				sum += coins
				if is := asks(t, g, fmt.Sprint("got ", player)); is[0] != coins {
					t.Fatalf("got %d: %v, not %d", player, is, coins)
				}
			}
			if _, nights := g.Counts(); sum != nights*rest || asks(t, g, "nights")[0] != nights {
				t.Fatalf("%d coins in %d nights of %v", sum, nights, b.Night)
			}
		}
		if _, nights := g.Counts(); nights > 0 && rest > 0 {
			paid++
		}
	})
	if paid < 100 {
		t.Errorf("%d gangs were paid", paid)
	}
}

// anyNumber returns a number that mostly is small, but can be any.
func anyNumber(r *rand.Rand) int {
	return one(r, of(math.MinInt, math.MaxInt, -61, -1, 0, 0, 1, 1, 2, 3, 4, 7, 25, 301, 1<<32))
}

// setAny gives a value of a setup, or one within it, another one of its type, whichever.
func setAny(r *rand.Rand, v reflect.Value) {
	switch v.Kind() {
	case reflect.Int:
		v.SetInt(int64(anyNumber(r)))
	case reflect.Bool:
		v.SetBool(!v.Bool())
	case reflect.String:
		v.SetString(one(r, names("", "a", "hear", "A", "a\n", "a b", strings.Repeat("a", 17), "\xff")))
	case reflect.Struct:
		setAny(r, v.Field(r.IntN(v.NumField())))
	case reflect.Array:
		setAny(r, v.Index(r.IntN(v.Len())))
	case reflect.Slice:
		switch {
		case r.IntN(8) == 0:
			v.SetLen(r.IntN(v.Len() + 1))
		case r.IntN(8) == 0:
			longer := reflect.MakeSlice(v.Type(), v.Len()+1+r.IntN(9), v.Len()+9)
			reflect.Copy(longer, v)
			v.Set(longer)
		case v.Len() > 0:
			setAny(r, v.Index(r.IntN(v.Len())))
		}
	}
}

// P1, P11.1: no function panics or goes on for ever, whatever the setup is, and whatever is said; what is not valid has no gang.
func TestAnything(t *testing.T) {
	r := rand.New(rand.NewPCG(8, 11))
	valid := 0
	for range 3000 {
		seed := r.Uint64()
		b := newBooks(randomSetup(rand.New(rand.NewPCG(seed, 11))))
		s := randomSetup(rand.New(rand.NewPCG(seed, 11)))
		for range r.IntN(3) {
			setAny(r, reflect.ValueOf(&s).Elem())
		}
		e := leader.Check(s)
		g, f := leader.New(s)
		file := fileOf(b.randomLine(r), spoiled(r, b.randomLine(r)), b.randomLine(r))
		opened, at, h := leader.Open(s, file)
		if e == api.OK {
			valid++
		}
		if e != f || (e == api.ErrLeader) == (g != nil) || (h == api.ErrLeader) != (g == nil) || (h == api.OK) != (opened != nil) {
			t.Fatalf("%+v: %d, %v, %d, and %v, %d, %d", s, e, g != nil, f, opened != nil, at, h)
		}
		for range 20 {
			line := b.randomLine(r)
			if r.IntN(3) == 0 {
				line = spoiled(r, line)
			}
			if _, h := g.Do(line); (h == api.ErrNil) != (g == nil) {
				t.Fatalf("%q: %d", line, h)
			}
		}
		shown(g)
	}
	if valid < 500 || valid > 2500 {
		t.Errorf("%d of 3000 setups are valid", valid)
	}
}

// P1: a season of a setup as great as can be, of as many lines as can be, is done again in time.
func TestGreat(t *testing.T) {
	s := withKeys("a", "b", "c", "d", "e", "f")
	s.Set.Heard = slices.Repeat([]api.Span{span(3960, 4000)}, 6)
	s.Set.Scales = []api.TuneScale{{Keys: of(0, 1, 2), Steps: slices.Repeat([]api.Span{span(200, 5000)}, 2)}}
	s.Set.Pairs, s.Set.Beat = [][2]int{{2, 3}, {3, 4}, {4, 5}}, span(0, 60)
	s.Shop.Tools = []api.RaspTool{{Move: span(-30, 0), Cost: 1}, {Move: span(0, 30), Cost: 1}, {Move: span(-30, -1), Cost: 1}, {Move: span(1, 30), Cost: 1}}
	s.Shop.Fine, s.Shop.Keys = span(-30, 30), slices.Repeat([]api.RaspKey{{Now: span(-60, 60), Metal: 30}}, 6)
	s.Book.Pieces = slices.Repeat([]api.HeardPiece{{Form: 1, Tones: slices.Repeat(of(3), 24)}}, 3)
	s.Drum = api.DrumBook{Parts: 8, Size: 16, Beats: of(1, 1, 1, 1), Start: 1, End: 2, Time: span(0, 128000), Notice: 1}
	s.Drum.Players = slices.Repeat([]api.DrumPlayer{{Late: span(0, 500), Catch: slices.Repeat([]api.Span{span(100, 100)}, 4)}}, 5)
	s.Night.Opens, s.Night.Ends = of(0, 0, 0), of(2000, 2000, 2000)
	s.Night.Scenes = slices.Repeat([]api.NightScene{{Long: span(0, 600), Weight: 1}}, 10)
	g := started(t, s)
	for _, name := range s.Keys {
		does(t, g, "hear "+name+" 60")
		for range 30 {
			does(t, g, "stroke "+name+" -1")
			asks(t, g, "tool "+name)
		}
		says(t, g, [2]string{"tool " + name, "-1 0"})
	}
	for range 6 {
		does(t, g, "note 6 6 "+strings.Repeat("3", 12))
	}
	does(t, g, "piece lancar")
	for len(g.Journal()) < 300 {
		may, cue := asks(t, g, "may"), asks(t, g, "cue")
		if len(may) == 0 || len(cue) != 7 && len(g.Done()) == 0 {
			t.Fatalf("%v, %v", may, cue)
		}
		does(t, g, fmt.Sprint("part ", may[0]))
		if len(g.Done()) < 10 {
			g.Do(one(rand.New(rand.NewPCG(uint64(len(g.Done())), 1)), names("scene 600", "leave", "scene 0")))
		} else {
			g.Do("pay")
		}
	}
	again, at, e := leader.Open(s, g.File())
	if at != 300 || e != api.OK || shown(again) != shown(g) {
		t.Errorf("Open: %d, %d", at, e)
	}
}
