package leader_test

import (
	"fmt"
	"reflect"
	"slices"
	"strings"
	"testing"

	"saron/api"
	"saron/leader"
)

func of(numbers ...int) []int { return numbers }

func names(list ...string) []string { return list }

func span(low, high int) api.Span { return api.Span{Low: low, High: high} }

// example is the setup of the chapter's examples.
func example() api.LeaderSetup {
	scene := func(part, low, high, weight int, must bool) api.NightScene {
		return api.NightScene{Part: part, Long: span(low, high), Weight: weight, Must: must}
	}
	return api.LeaderSetup{
		Keys: names("demung", "saron"),
		Set:  api.TuneSet{Heard: []api.Span{span(200, 204), span(206, 210)}, Pairs: [][2]int{{0, 1}}, Beat: span(4, 7)},
		Shop: api.RaspShop{
			Tools: []api.RaspTool{{Move: span(-6, -4), Cost: 2}, {Move: span(2, 3), Cost: 1}}, Fine: span(-2, 2),
			Keys: []api.RaspKey{{Now: span(5, 9), Metal: 6}, {Now: span(-7, -5), Metal: 3}},
		},
		Pieces: names("lancar", "ladrang", "ketawang"),
		Book: api.HeardBook{
			Forms: api.CycleBook{Gongs: 3, Forms: []api.CycleForm{
				{Beats: 8, Strokes: [][]int{{7}, {3, 7}, {0, 2, 4, 6}}}, {Beats: 4, Strokes: [][]int{{3}, {1}, {0, 2}}},
			}},
			Pieces: []api.HeardPiece{{Form: 1, Tones: of(0, 2, 4, 2, 1, 0)}, {Form: 0, Tones: of(0, 2, 3, 2, 4, 2, 1)}, {Form: 1, Tones: of(4, 2, 1, 0, 2)}},
		},
		Drum: api.DrumBook{
			Parts: 4, Size: 4, Beats: of(10, 16, 24, 40), Start: 1, End: 2, Time: span(240, 320), Slip: span(0, 2), Notice: 2,
			Players: []api.DrumPlayer{
				{Late: span(0, 6), Catch: []api.Span{span(0, 0), span(0, 1), span(1, 1), span(1, 2)}},
				{Late: span(2, 3), Catch: []api.Span{span(0, 1), span(1, 1), span(1, 2), span(2, 2)}},
			},
		},
		Night: api.NightBook{
			Begin: 10, Opens: of(0, 180, 360), Ends: of(200, 380, 540),
			Scenes: []api.NightScene{
				scene(0, 60, 80, 5, true), scene(0, 50, 70, 2, false), scene(0, 40, 60, 3, false), scene(1, 90, 120, 4, true),
				scene(1, 60, 90, 3, false), scene(2, 60, 70, 6, true), scene(2, 80, 100, 2, false), scene(2, 30, 50, 1, false),
			},
			Fee: 1003, Loads: of(40, 60, 50, 30), Cart: 100, Cost: 50, Feast: 20, Shares: of(3, 2, 2),
		},
	}
}

// with returns the setup of the examples after a change.
func with(change func(s *api.LeaderSetup)) api.LeaderSetup {
	s := example()
	change(&s)
	return s
}

// withKeys is a setup of so many keys, which nothing joins.
func withKeys(list ...string) api.LeaderSetup {
	return with(func(s *api.LeaderSetup) {
		s.Keys = list
		s.Set = api.TuneSet{Heard: slices.Repeat([]api.Span{span(100, 110)}, len(list))}
		s.Shop.Keys = slices.Repeat([]api.RaspKey{{Now: span(-9, 9), Metal: 9}}, len(list))
	})
}

// withPieces is a setup of pieces that all have the same tones.
func withPieces(list ...string) api.LeaderSetup {
	return with(func(s *api.LeaderSetup) {
		s.Pieces = list
		s.Book.Pieces = slices.Repeat([]api.HeardPiece{{Form: 0, Tones: of(1, 2, 3)}}, len(list))
	})
}

// withNight is a setup with other scenes, which can last for the whole night.
func withNight(scenes ...api.NightScene) api.LeaderSetup {
	return with(func(s *api.LeaderSetup) {
		s.Night.Begin, s.Night.Opens, s.Night.Ends, s.Night.Scenes = 0, of(0, 0, 0), of(2000, 2000, 2000), scenes
	})
}

// withParts is a setup with cycles of so many parts that all have the density 1.
func withParts(parts int) api.LeaderSetup {
	return with(func(s *api.LeaderSetup) {
		s.Drum.Parts, s.Drum.Start, s.Drum.End, s.Drum.Time, s.Drum.Slip = parts, 1, 1, span(parts*64, parts*64), span(1, 1)
		s.Drum.Players = []api.DrumPlayer{{Catch: slices.Repeat([]api.Span{span(0, 0)}, 4)}}
	})
}

func validSetups() map[string]api.LeaderSetup {
	return map[string]api.LeaderSetup{
		"the example":           example(),
		"one key":               withKeys("a"),
		"6 keys":                withKeys("a", "b", "c", "d", "e", "f"),
		"long names":            withKeys("abcdefghijklmnop", "z-0123456789----"),
		"names like words":      withKeys("hear", "pay", "wrong"),
		"names that begin so":   withKeys("ab", "a", "abc"),
		"one piece":             withPieces("a"),
		"6 pieces":              withPieces("a", "b", "c", "d", "e", "f"),
		"keys like pieces":      with(func(s *api.LeaderSetup) { s.Keys = s.Pieces[:2] }),
		"never in tune":         with(func(s *api.LeaderSetup) { s.Set.Beat = span(50, 60) }),
		"no pairs":              with(func(s *api.LeaderSetup) { s.Set.Pairs = nil }),
		"keys that may be lost": with(func(s *api.LeaderSetup) { s.Shop.Keys[0].Metal = 0 }),
		"a single plan":         with(func(s *api.LeaderSetup) { s.Drum.Time = span(320, 320) }),
		"one part":              withParts(1),
		"8 parts":               withParts(8),
		"one scene":             withNight(api.NightScene{}),
		"a fee that is enough":  with(func(s *api.LeaderSetup) { s.Night.Fee = 160 }),
		"no loads":              with(func(s *api.LeaderSetup) { s.Night.Loads = nil }),
		"12 players":            with(func(s *api.LeaderSetup) { s.Night.Shares = slices.Repeat(of(1), 12) }),
	}
}

func wrongSetups() map[string]api.LeaderSetup {
	setups := map[string]api.LeaderSetup{"nothing": {}}
	for name, change := range map[string]func(s *api.LeaderSetup){
		"no set":                     func(s *api.LeaderSetup) { s.Set = api.TuneSet{} },
		"a wrong set":                func(s *api.LeaderSetup) { s.Set.Beat = span(0, 61) },
		"a ring":                     func(s *api.LeaderSetup) { s.Set.Pairs = append(s.Set.Pairs, [2]int{0, 1}) },
		"a key more of the set":      func(s *api.LeaderSetup) { s.Set.Heard = append(s.Set.Heard, span(100, 110)) },
		"a key less of the set":      func(s *api.LeaderSetup) { s.Set.Heard, s.Set.Pairs = s.Set.Heard[:1], nil },
		"no names of keys":           func(s *api.LeaderSetup) { s.Keys = nil },
		"a name of a key less":       func(s *api.LeaderSetup) { s.Keys = s.Keys[:1] },
		"a name of a key more":       func(s *api.LeaderSetup) { s.Keys = append(s.Keys, "gong") },
		"a million keys":             func(s *api.LeaderSetup) { s.Keys = slices.Repeat(names("a"), 1000000) },
		"keys of the same name":      func(s *api.LeaderSetup) { s.Keys[1] = "demung" },
		"no shop":                    func(s *api.LeaderSetup) { s.Shop = api.RaspShop{} },
		"a wrong shop":               func(s *api.LeaderSetup) { s.Shop.Tools[0].Cost = 0 },
		"a key more of the shop":     func(s *api.LeaderSetup) { s.Shop.Keys = append(s.Shop.Keys, s.Shop.Keys[0]) },
		"a key less of the shop":     func(s *api.LeaderSetup) { s.Shop.Keys = s.Shop.Keys[:1] },
		"no keys of the shop":        func(s *api.LeaderSetup) { s.Shop.Keys = nil },
		"no book":                    func(s *api.LeaderSetup) { s.Book = api.HeardBook{} },
		"a wrong book":               func(s *api.LeaderSetup) { s.Book.Pieces[2].Tones = nil },
		"wrong forms":                func(s *api.LeaderSetup) { s.Book.Forms.Gongs = 4 },
		"a piece more":               func(s *api.LeaderSetup) { s.Book.Pieces = append(s.Book.Pieces, s.Book.Pieces[0]) },
		"a piece less":               func(s *api.LeaderSetup) { s.Book.Pieces = s.Book.Pieces[:2] },
		"no names of pieces":         func(s *api.LeaderSetup) { s.Pieces = nil },
		"a name of a piece less":     func(s *api.LeaderSetup) { s.Pieces = s.Pieces[:2] },
		"a name of a piece more":     func(s *api.LeaderSetup) { s.Pieces = append(s.Pieces, "sampak") },
		"pieces of the same name":    func(s *api.LeaderSetup) { s.Pieces[2] = "lancar" },
		"no drum":                    func(s *api.LeaderSetup) { s.Drum = api.DrumBook{} },
		"a wrong drum":               func(s *api.LeaderSetup) { s.Drum.Notice = 5 },
		"no plan lasts so long":      func(s *api.LeaderSetup) { s.Drum.Time = span(0, 319) },
		"somebody is late":           func(s *api.LeaderSetup) { s.Drum.Players[0].Late.High = 7 },
		"no night":                   func(s *api.LeaderSetup) { s.Night = api.NightBook{} },
		"a wrong night":              func(s *api.LeaderSetup) { s.Night.Scenes[7].Part = 1 },
		"no choice fits":             func(s *api.LeaderSetup) { s.Night.Ends[1] = 299 },
		"a load is too heavy":        func(s *api.LeaderSetup) { s.Night.Cart = 59 },
		"the fee is not enough":      func(s *api.LeaderSetup) { s.Night.Fee = 159 },
		"no choice fits, and no fee": func(s *api.LeaderSetup) { s.Night.Ends[1], s.Night.Fee = 299, 0 },
		"all of it":                  func(s *api.LeaderSetup) { *s = api.LeaderSetup{Keys: s.Keys, Pieces: s.Pieces} },
	} {
		setups[name] = with(change)
	}
	for _, name := range names("", "0", "0a", "-", "-a", "A", "aB", "a_", "a b", " a", "a ", "a\n", "é", "a\x00", "a\xff", "a.", "a/", "a:", "a`", "a{", "abcdefghijklmnopq", strings.Repeat("a", 1<<20)) {
		for number := range 2 {
			setups[fmt.Sprintf("the name %.20q of the key %d", name, number)] = with(func(s *api.LeaderSetup) { s.Keys[number] = name })
			setups[fmt.Sprintf("the name %.20q of the piece %d", name, number+1)] = with(func(s *api.LeaderSetup) { s.Pieces[number+1] = name })
		}
	}
	return setups
}

// started returns a new gang.
func started(t *testing.T, s api.LeaderSetup) *leader.Gang {
	t.Helper()
	g, e := leader.New(s)
	if g == nil || e != api.OK {
		t.Fatalf("New: %v, %d", g, e)
	}
	return g
}

// shown is all that a gang has; of an empty list and of no list it is the same.
func shown(g *leader.Gang) string {
	cycles, nights := g.Counts()
	return fmt.Sprintf("keys %v notes %v path %v done %v played %v got %v counts %d %d journal %s file %s", g.Keys(), g.Notes(), g.Path(), g.Done(), g.Played(), g.Got(), cycles, nights, strings.Join(g.Journal(), "|"), g.File())
}

// says does lines, each of which has this answer.
func says(t *testing.T, g *leader.Gang, lines ...[2]string) {
	t.Helper()
	for _, l := range lines {
		if answer, e := g.Do(l[0]); answer != l[1] || e != api.OK {
			t.Errorf("%q: %q, %d, not %q", l[0], answer, e, l[1])
		}
	}
}

// does does lines, none of which is an error.
func does(t *testing.T, g *leader.Gang, lines ...string) {
	t.Helper()
	for _, line := range lines {
		if answer, e := g.Do(line); answer == "" || e != api.OK {
			t.Errorf("%q: %q, %d", line, answer, e)
		}
	}
}

// fails does lines, each of which has this error, and checks that nothing changes (P11.2, P11.7, R2).
func fails(t *testing.T, g *leader.Gang, want api.Errno, lines ...string) {
	t.Helper()
	before := shown(g)
	for _, line := range lines {
		if answer, e := g.Do(line); answer != "" || e != want {
			t.Errorf("%.99q: %q, %d, not the error %d", line, answer, e, want)
		}
		if after := shown(g); after != before {
			t.Fatalf("%.99q changed what the gang has to %s; it was %s", line, after, before)
		}
	}
}

// P11.1: what is valid.
func TestCheck(t *testing.T) {
	for name, s := range validSetups() {
		if e := leader.Check(s); e != api.OK {
			t.Errorf("%s: %d", name, e)
		}
		started(t, s)
		if g, at, e := leader.Open(s, ""); g == nil || at != 0 || e != api.OK {
			t.Errorf("Open of %s: %v, %d, %d", name, g, at, e)
		}
	}
	for name, s := range wrongSetups() {
		if e := leader.Check(s); e != api.ErrLeader {
			t.Errorf("%s: %d", name, e)
		}
		if g, e := leader.New(s); g != nil || e != api.ErrLeader {
			t.Errorf("New of %s: %v, %d", name, g, e)
		}
		for _, file := range names("", "pay\n", "x", strings.Repeat("x", 65537)) {
			if g, at, e := leader.Open(s, file); g != nil || at != 0 || e != api.ErrLeader {
				t.Errorf("Open of %s, %.9q: %v, %d, %d", name, file, g, at, e)
			}
		}
	}
}

// P11.1, P11.3: what a new gang has.
func TestNew(t *testing.T) {
	const want = "keys [{false 0 6 0} {false 0 3 0}] notes [] path [] done [] played [0 0 0] got [0 0 0] counts 0 0 journal  file "
	if is := shown(started(t, example())); is != want {
		t.Errorf("a new gang has %s", is)
	}
	says(t, started(t, example()), [2]string{"cycles", "0"}, [2]string{"nights", "0"}, [2]string{"got 0", "0"}, [2]string{"played ladrang", "0"})
	large := with(func(s *api.LeaderSetup) { s.Night.Shares = slices.Repeat(of(1), 12) })
	if got := started(t, large).Got(); !slices.Equal(got, make([]int, 12)) {
		t.Errorf("Got of 12 players: %v", got)
	}
	six := started(t, withKeys("a", "b", "c", "d", "e", "f"))
	if keys := six.Keys(); !slices.Equal(keys, slices.Repeat([]api.LeaderKey{{Metal: 9}}, 6)) {
		t.Errorf("Keys: %v", keys)
	}
}

// P11.1, R3: a gang that was not made.
func TestNil(t *testing.T) {
	copied := *started(t, example())
	const want = "keys [] notes [] path [] done [] played [] got [] counts 0 0 journal  file "
	for name, g := range map[string]*leader.Gang{"nil": nil, "empty": {}, "a copy": &copied} {
		if is := shown(g); is != want {
			t.Errorf("the gang that is %s has %s", name, is)
		}
		fails(t, g, api.ErrNil, "pay", "cycles", "", "hear demung 7", "x", strings.Repeat("x", 201))
	}
}

// P11.2: the lines of the chapter.
func TestExamples(t *testing.T) {
	g := started(t, example())
	fails(t, g, api.ErrLeaderUnknown, "pitch gong")
	fails(t, g, api.ErrLeaderMute, "tool demung")
	says(t, g, [2]string{"pitch demung", "200 204"}, [2]string{"even", "4 4"}, [2]string{"wrong", "-"}, [2]string{"hear demung 7", "3"})
	fails(t, g, api.ErrLeaderTwice, "hear demung 5")
	fails(t, g, api.ErrRange, "hear saron 0")
	says(t, g, [2]string{"hear saron -7", "3"}, [2]string{"tool demung", "0 3"}, [2]string{"stroke demung -4", "0 3"})
	fails(t, g, api.ErrRange, "stroke demung -3")
	says(t, g, [2]string{"stroke demung -6", "0 -3"}, [2]string{"tool demung", "1 1"}, [2]string{"stroke demung 2", "1 -1"}, [2]string{"tool demung", "-1 0"})
	fails(t, g, api.ErrNone, "stroke demung 2")
	says(t, g, [2]string{"off demung", "-1 1 3"}, [2]string{"off saron", "-7 3 0"})
	says(t, g, [2]string{"note 1 0 241", "1"}, [2]string{"pieces", "lancar ladrang"}, [2]string{"note 1 0 22", "2"}, [2]string{"read ladrang 1 1", "3 5"}, [2]string{"read ladrang 0 0", "3"})
	fails(t, g, api.ErrLeaderFalse, "piece ketawang")
	says(t, g, [2]string{"piece lancar", "1"}, [2]string{"pieces", "lancar ladrang ketawang"}, [2]string{"played lancar", "1"}, [2]string{"may", "1"})
	fails(t, g, api.ErrLeaderFalse, "part 2")
	says(t, g, [2]string{"part 1", "0"}, [2]string{"part 1", "0"}, [2]string{"may", "2"}, [2]string{"part 2", "0"}, [2]string{"part 2", "1"}, [2]string{"cycles", "1"})
	says(t, g, [2]string{"cue", "1 4 7"}, [2]string{"spare", "50"})
	fails(t, g, api.ErrRange, "leave", "scene 59")
	says(t, g, [2]string{"scene 60", "1"}, [2]string{"cue", "4 7"}, [2]string{"scene 50", "2"}, [2]string{"scene 40", "3"}, [2]string{"scene 90", "4"}, [2]string{"cue", "7"})
	fails(t, g, api.ErrLeaderEarly, "pay")
	says(t, g, [2]string{"scene 60", "5"}, [2]string{"scene 60", "6"}, [2]string{"scene 80", "7"}, [2]string{"leave", "8"})
	fails(t, g, api.ErrNone, "scene 30")
	says(t, g, [2]string{"pay", "1"}, [2]string{"got 0", "361"}, [2]string{"nights", "1"})
	const has = "keys [{true -1 1 3} {true -7 3 0}] notes [] path [] done [] played [1 0 0] got [361 241 241] counts 1 1"
	if is := shown(g); !strings.HasPrefix(is, has) {
		t.Errorf("the gang has %s", is)
	}
}

// forms is all words, each with what can stand behind it in the setup of the examples: all of it has the form.
func forms() map[string]string {
	return map[string]string{
		"hear": " demung 7", "stroke": " demung -4", "note": " 1 0 241", "piece": " lancar", "part": " 1", "scene": " 60", "leave": "", "pay": "",
		"tool": " demung", "off": " demung", "pitch": " demung", "even": "", "wrong": "", "pieces": "", "read": " ladrang 0 1", "may": "", "cue": "",
		"spare": "", "played": " lancar", "got": " 0", "cycles": "", "nights": "",
	}
}

// P11.2: lines that do not have the form, by their tokens.
func TestTokens(t *testing.T) {
	g := started(t, example())
	does(t, g, "note 1 0 241")
	for word, behind := range forms() {
		line := word + behind
		if _, e := g.Do(line); e == api.ErrLeaderLine {
			t.Errorf("%q does not have the form", line)
		}
		wrong := names(" "+line, line+" ", line+" x", line+" 1", line+"\n", line+"\x00", "x"+line, word+"x"+behind, strings.ToUpper(word)+behind, line+"  ", "\t"+line)
		if behind != "" {
			wrong = append(wrong, word, word+" ", word+" "+behind, line[:strings.LastIndexByte(line, ' ')], line[:strings.LastIndexByte(line, ' ')+1], strings.ReplaceAll(line, " ", "\t"))
		}
		h := started(t, example())
		for _, l := range wrong {
			// A byte more can be of a name: then it is one that nobody knows.
			want := api.ErrLeaderLine
			if isOfName := strings.HasSuffix(behind, "demung") || strings.HasSuffix(behind, "lancar"); isOfName && strings.HasPrefix(l, line) && !strings.Contains(l[len(line):], " ") {
				want = api.ErrLeaderUnknown
			}
			fails(t, h, want, l)
		}
	}
	fails(t, g, api.ErrLeaderLine, "", " ", "  ", "-", "x", "\n", "hear\ndemung\n7", "heardemung7", "give demung", "journal", "keys", "\xff", "héar demung 7")
}

// P11.2: lines that do not have the form, by their numbers; it comes before any other error.
func TestNumbers(t *testing.T) {
	g := started(t, example())
	wrong := names("", "-", "--1", "-0", "-00", "-01", "00", "01", "007", "+1", "+0", "1.", "1.0", "0x1", "1e1", "1_0", "1000000", "0000001", "-1000000", "9999999", "a", "1a", "a1", "\x00", "1\n", "é", "٣", "1-", strings.Repeat("9", 99))
	for _, n := range wrong {
		fails(t, g, api.ErrLeaderLine, "hear demung "+n, "stroke demung "+n, "hear gong "+n, "stroke gong "+n)
	}
	for _, n := range append(wrong, "-1", "-999999") {
		fails(t, g, api.ErrLeaderLine, "part "+n, "scene "+n, "got "+n, "note "+n+" 0 1", "note 0 "+n+" 1", "note 7 "+n+" 1", "read lancar "+n+" 0", "read lancar 0 "+n, "read gong 0 "+n)
	}
	for _, tones := range names("", "7", "8", "9", "017", "70", "-1", "1-", "a", "1a", "1.", "/", ":", "\n", "1\n", "é", strings.Repeat("0", 25), strings.Repeat("6", 99)) {
		fails(t, g, api.ErrLeaderLine, "note 0 0 "+tones, "note 7 0 "+tones)
	}
	fails(t, g, api.ErrRange, "hear demung 999999", "hear demung -999999", "hear demung 100000", "hear demung 0", "part 999999", "scene 999999", "scene 0", "got 999999", "note 999999 0 1", "note 0 999999 1")
	says(t, g, [2]string{"note 0 0 " + strings.Repeat("0123456", 4)[:24], "1"}, [2]string{"note 6 6 0", "2"}, [2]string{"note 0 0 00", "3"})
	want := []api.HeardNote{{Tones: of(0, 1, 2, 3, 4, 5, 6, 0, 1, 2, 3, 4, 5, 6, 0, 1, 2, 3, 4, 5, 6, 0, 1, 2)}, {Tones: of(0), Lost: 6, Wrong: 6}, {Tones: of(0, 0)}}
	if notes := g.Notes(); fmt.Sprint(notes) != fmt.Sprint(want) {
		t.Errorf("Notes: %v, not %v", notes, want)
	}
}

// P11.2: a line is at most 200 bytes; a name of one can be any other token.
func TestLong(t *testing.T) {
	g := started(t, example())
	for _, word := range names("pitch ", "played ") {
		fails(t, g, api.ErrLeaderUnknown, word+strings.Repeat("x", 200-len(word)), word+"DEMUNG", word+"demun", word+"demungg", word+"7", word+"-", word+"\n", word+"\x00", word+"\xff", word+"é", word+"demung\n")
		fails(t, g, api.ErrLeaderLine, word+strings.Repeat("x", 201-len(word)), word+strings.Repeat("x", 1<<20))
	}
	fails(t, g, api.ErrLeaderUnknown, "pitch lancar", "played demung", "piece demung", "hear lancar 7", "read demung 0 0")
	fails(t, g, api.ErrLeaderLine, strings.Repeat("x", 200), strings.Repeat(" ", 200), strings.Repeat("x ", 100), strings.Repeat("x", 1<<20), strings.Repeat(" ", 1<<20), "pay"+strings.Repeat(" ", 198))
}

// P11.2: keys are told by their names, and those alone.
func TestNames(t *testing.T) {
	s := withKeys("ab", "a", "abc", "hear", "b-0", "abcdefghijklmnop")
	s.Shop.Keys = []api.RaspKey{{Now: span(-9, 9), Metal: 1}, {Now: span(-9, 9), Metal: 2}, {Now: span(-9, 9), Metal: 3}, {Now: span(-9, 9), Metal: 4}, {Now: span(-9, 9), Metal: 5}, {Now: span(-9, 9), Metal: 6}}
	g := started(t, s)
	for number, name := range s.Keys {
		does(t, g, fmt.Sprintf("hear %s %d", name, number-2))
	}
	for number, name := range s.Keys {
		says(t, g, [2]string{"off " + name, fmt.Sprint(number-2, number+1, 0)})
	}
	fails(t, g, api.ErrLeaderUnknown, "off b", "off abcd", "off b-1", "off abcdefghijklmno", "off abcdefghijklmnopq", "off hea")
	p := started(t, withPieces("b", "a", "pay"))
	says(t, p, [2]string{"pieces", "b a pay"}, [2]string{"piece pay", "1"}, [2]string{"piece a", "1"}, [2]string{"piece pay", "2"}, [2]string{"played b", "0"}, [2]string{"played pay", "2"})
	if played := p.Played(); !slices.Equal(played, of(0, 1, 2)) {
		t.Errorf("Played: %v", played)
	}
}

// P11.2: keys are heard once, and tuned stroke by stroke.
func TestKeys(t *testing.T) {
	g := started(t, example())
	fails(t, g, api.ErrLeaderUnknown, "hear gong 99", "stroke gong 99", "tool gong", "off gong")
	fails(t, g, api.ErrLeaderMute, "stroke saron 99", "tool saron", "off saron")
	fails(t, g, api.ErrRange, "hear saron -8", "hear saron -4", "hear saron 5", "hear demung 4", "hear demung 10")
	says(t, g, [2]string{"hear saron -5", "2"}, [2]string{"off saron", "-5 3 0"}, [2]string{"tool saron", "1 2"})
	fails(t, g, api.ErrLeaderTwice, "hear saron -5", "hear saron 99")
	fails(t, g, api.ErrRange, "stroke saron 1", "stroke saron 4", "stroke saron -4")
	says(t, g, [2]string{"stroke saron 3", "1 -2"}, [2]string{"off saron", "-2 2 1"}, [2]string{"tool saron", "-1 0"})
	fails(t, g, api.ErrNone, "stroke saron 2", "stroke saron 99")
	want := []api.LeaderKey{{Metal: 6}, {Heard: true, Off: -2, Metal: 2, Strokes: 1}}
	if keys := g.Keys(); !slices.Equal(keys, want) {
		t.Errorf("Keys: %v, not %v", keys, want)
	}
	says(t, g, [2]string{"hear demung 9", "3"}, [2]string{"off demung", "9 6 0"})
	if journal := g.Journal(); !slices.Equal(journal, names("hear saron -5", "stroke saron 3", "hear demung 9")) {
		t.Errorf("Journal: %q", journal)
	}
}

// P11.2: keys that are fine at once, that may be spoilt, and that are heard to be off by 0.
func TestFineAndSpoilt(t *testing.T) {
	s := with(func(s *api.LeaderSetup) {
		s.Shop.Keys = []api.RaspKey{{Now: span(0, 9), Metal: 0}, {Now: span(-60, 60), Metal: 1}}
	})
	g := started(t, s)
	says(t, g, [2]string{"hear demung 0", "0"}, [2]string{"tool demung", "-1 0"}, [2]string{"off demung", "0 0 0"})
	fails(t, g, api.ErrLeaderTwice, "hear demung 0")
	fails(t, g, api.ErrNone, "stroke demung 0")
	says(t, g, [2]string{"hear saron 60", "-"}, [2]string{"off saron", "60 1 0"})
	fails(t, g, api.ErrNone, "tool saron", "stroke saron -6", "stroke saron 99")
	fails(t, g, api.ErrLeaderTwice, "hear saron 60")
	// With no metal, and off by nothing, a key that was heard is not like one that was not.
	mute := started(t, s)
	fails(t, mute, api.ErrLeaderMute, "off demung", "tool demung", "stroke demung 0")
	h := started(t, s)
	says(t, h, [2]string{"hear demung 3", "-"}, [2]string{"hear saron -3", "1"}, [2]string{"stroke saron 2", "1 -1"}, [2]string{"off saron", "-1 0 1"})
}

// P11.2: what listeners write.
func TestNotes(t *testing.T) {
	g := started(t, example())
	fails(t, g, api.ErrRange, "note 7 0 1", "note 0 7 1", "note 7 7 1", "note 999999 999999 1")
	fails(t, g, api.ErrLeaderUnknown, "read gong 0 0", "read gong 9 9", "piece gong", "played gong")
	fails(t, g, api.ErrRange, "read lancar 0 0")
	says(t, g, [2]string{"note 6 6 0", "1"}, [2]string{"note 0 0 0", "2"}, [2]string{"note 0 6 24", "3"}, [2]string{"note 0 0 66", "4"}, [2]string{"note 6 0 024210", "5"}, [2]string{"note 6 0 024210", "6"})
	fails(t, g, api.ErrFull, "note 0 0 1", "note 6 6 1")
	fails(t, g, api.ErrRange, "note 7 0 1", "note 0 7 1", "read lancar 6 0", "read lancar 0 1", "read lancar 4 6", "read lancar 0 999999", "read lancar 999999 0")
	says(t, g, [2]string{"read lancar 4 5", "5"}, [2]string{"read lancar 3 1", "-"}, [2]string{"read lancar 1 0", "0 5"}, [2]string{"read ketawang 1 0", "3"}, [2]string{"pieces", "-"})
	fails(t, g, api.ErrLeaderFalse, "piece lancar", "piece ladrang", "piece ketawang")
	if notes := g.Notes(); len(notes) != 6 || fmt.Sprint(notes[2]) != fmt.Sprint(api.HeardNote{Tones: of(2, 4), Wrong: 6}) {
		t.Errorf("Notes: %v", notes)
	}
	h := started(t, example())
	says(t, h, [2]string{"pieces", "lancar ladrang ketawang"}, [2]string{"piece ketawang", "1"}, [2]string{"note 0 0 42102", "1"}, [2]string{"pieces", "ketawang"})
	fails(t, h, api.ErrLeaderFalse, "piece lancar")
	says(t, h, [2]string{"piece ketawang", "2"}, [2]string{"pieces", "lancar ladrang ketawang"}, [2]string{"note 0 1 555", "1"}, [2]string{"pieces", "-"})
	fails(t, h, api.ErrRange, "read ketawang 1 0")
	if played := h.Played(); !slices.Equal(played, of(0, 0, 2)) {
		t.Errorf("Played: %v", played)
	}
}

// P11.2: only pieces that all notes fit, not some of them.
func TestAllNotes(t *testing.T) {
	g := started(t, example())
	says(t, g, [2]string{"note 0 0 421", "1"}, [2]string{"pieces", "lancar ladrang ketawang"}, [2]string{"note 0 0 242", "2"}, [2]string{"pieces", "lancar ladrang"}, [2]string{"note 0 0 1", "3"}, [2]string{"pieces", "lancar ladrang"})
	fails(t, g, api.ErrLeaderFalse, "piece ketawang")
	says(t, g, [2]string{"note 0 0 23", "4"}, [2]string{"pieces", "ladrang"})
	fails(t, g, api.ErrLeaderFalse, "piece lancar", "piece ketawang")
	says(t, g, [2]string{"piece ladrang", "1"})
}

// P11.2: parts, until the cycle is over.
func TestParts(t *testing.T) {
	s := with(func(s *api.LeaderSetup) {
		s.Drum.Time, s.Drum.Start, s.Drum.End = span(0, 128000), 0, 3
		s.Drum.Players = []api.DrumPlayer{{Catch: slices.Repeat([]api.Span{span(9, 9)}, 4)}}
		s.Drum.Parts = 6
	})
	g := started(t, s)
	fails(t, g, api.ErrRange, "part 4", "part 999999")
	fails(t, g, api.ErrLeaderFalse, "part 1", "part 2", "part 3")
	says(t, g, [2]string{"may", "0"}, [2]string{"part 0", "0"}, [2]string{"may", "0 1"}, [2]string{"part 1", "0"}, [2]string{"may", "0 1 2"}, [2]string{"part 2", "0"}, [2]string{"may", "1 2 3"}, [2]string{"part 3", "0"}, [2]string{"may", "2 3"})
	fails(t, g, api.ErrLeaderFalse, "part 0", "part 1")
	if path := g.Path(); !slices.Equal(path, of(0, 1, 2, 3)) {
		t.Errorf("Path: %v", path)
	}
	says(t, g, [2]string{"part 2", "0"}, [2]string{"may", "3"}, [2]string{"cycles", "0"}, [2]string{"part 3", "1"}, [2]string{"may", "0"}, [2]string{"cycles", "1"})
	if path := g.Path(); len(path) != 0 {
		t.Errorf("Path: %v", path)
	}
	says(t, g, [2]string{"part 0", "1"}, [2]string{"part 0", "1"}, [2]string{"part 0", "1"}, [2]string{"may", "1"}, [2]string{"part 1", "1"}, [2]string{"part 2", "1"}, [2]string{"part 3", "2"})
	one := started(t, withParts(1))
	fails(t, one, api.ErrLeaderFalse, "part 0", "part 2")
	says(t, one, [2]string{"may", "1"}, [2]string{"part 1", "1"}, [2]string{"part 1", "2"}, [2]string{"cycles", "2"}, [2]string{"may", "1"})
	if cycles, nights := one.Counts(); cycles != 2 || nights != 0 {
		t.Errorf("Counts: %d, %d", cycles, nights)
	}
	eight := started(t, withParts(8))
	for range 7 {
		says(t, eight, [2]string{"may", "1"}, [2]string{"part 1", "0"})
	}
	says(t, eight, [2]string{"part 1", "1"})
}

// P11.2: scenes, until the night is over, and the pay then.
func TestNight(t *testing.T) {
	g := started(t, example())
	fails(t, g, api.ErrLeaderEarly, "pay")
	fails(t, g, api.ErrRange, "scene 59", "scene 81", "leave")
	says(t, g, [2]string{"scene 80", "1"}, [2]string{"scene 70", "2"})
	// The first part would end too late, whatever is left out then.
	fails(t, g, api.ErrLeaderFalse, "scene 60", "scene 41")
	fails(t, g, api.ErrRange, "scene 39", "scene 61")
	says(t, g, [2]string{"scene 40", "3"}, [2]string{"scene 120", "4"}, [2]string{"cue", "4 7"}, [2]string{"leave", "5"})
	if done := g.Done(); !slices.Equal(done, of(80, 70, 40, 120, api.NightLeft)) {
		t.Errorf("Done: %v", done)
	}
	fails(t, g, api.ErrRange, "leave")
	says(t, g, [2]string{"scene 70", "6"}, [2]string{"scene 100", "7"})
	fails(t, g, api.ErrLeaderFalse, "scene 50", "scene 30")
	fails(t, g, api.ErrLeaderEarly, "pay")
	says(t, g, [2]string{"cue", "7"}, [2]string{"leave", "8"}, [2]string{"cue", "-"}, [2]string{"nights", "0"}, [2]string{"got 2", "0"})
	fails(t, g, api.ErrNone, "leave", "scene 60", "scene 999999")
	fails(t, g, api.ErrRange, "got 3", "got 12", "got 999999")
	says(t, g, [2]string{"pay", "1"}, [2]string{"got 0", "361"}, [2]string{"got 1", "241"}, [2]string{"got 2", "241"}, [2]string{"cue", "1 4 7"})
	fails(t, g, api.ErrLeaderEarly, "pay")
	if done := g.Done(); len(done) != 0 {
		t.Errorf("Done: %v", done)
	}
	says(t, g, [2]string{"scene 60", "1"}, [2]string{"leave", "2"}, [2]string{"leave", "3"}, [2]string{"scene 90", "4"}, [2]string{"leave", "5"}, [2]string{"scene 60", "6"}, [2]string{"leave", "7"}, [2]string{"leave", "8"}, [2]string{"pay", "2"})
	if got := g.Got(); !slices.Equal(got, of(722, 482, 482)) {
		t.Errorf("Got: %v", got)
	}
	if cycles, nights := g.Counts(); cycles != 0 || nights != 2 {
		t.Errorf("Counts: %d, %d", cycles, nights)
	}
}

// P11.2: a scene cannot be left out either, if no choice would fit then; the part of a scene that is left out must end in time, too.
func TestNoChoice(t *testing.T) {
	long := api.NightScene{Long: span(10, 20)}
	g := started(t, withNight(long, long))
	says(t, g, [2]string{"leave", "1"}, [2]string{"leave", "2"}, [2]string{"pay", "1"}, [2]string{"scene 20", "1"}, [2]string{"scene 20", "2"}, [2]string{"pay", "2"})
	tight := withNight(long, api.NightScene{Long: span(10, 20), Must: true})
	tight.Night.Ends = of(30, 2000, 2000)
	h := started(t, tight)
	fails(t, h, api.ErrLeaderFalse, "scene 11", "scene 20")
	says(t, h, [2]string{"cue", "0"}, [2]string{"scene 10", "1"}, [2]string{"scene 20", "2"}, [2]string{"pay", "1"}, [2]string{"leave", "1"})
}

// P11.2: a night of which nothing is left for the players, and one of all that can be.
func TestWages(t *testing.T) {
	poor := withNight(api.NightScene{})
	poor.Night.Fee = 160
	g := started(t, poor)
	says(t, g, [2]string{"scene 0", "1"}, [2]string{"pay", "1"}, [2]string{"leave", "1"}, [2]string{"pay", "2"}, [2]string{"got 0", "0"}, [2]string{"nights", "2"})
	rich := withNight(api.NightScene{})
	rich.Night.Fee, rich.Night.Feast, rich.Night.Loads, rich.Night.Shares = 100000, 0, nil, slices.Repeat(of(1), 12)
	h := started(t, rich)
	for range 150 {
		does(t, h, "leave", "pay")
	}
	want := append(slices.Repeat(of(8334*150), 4), slices.Repeat(of(8333*150), 8)...)
	if got := h.Got(); !slices.Equal(got, want) {
		t.Errorf("Got: %v, not %v", got, want)
	}
	says(t, h, [2]string{"nights", "150"}, [2]string{"got 11", "1249950"})
	fails(t, h, api.ErrRange, "got 12")
	fails(t, h, api.ErrFull, "leave", "pay")
}

// P11.2, P11.11: what is asked of the set, also of one that cannot be in tune, or has no pairs.
func TestSet(t *testing.T) {
	g := started(t, example())
	says(t, g, [2]string{"pitch saron", "206 210"})
	apart := started(t, with(func(s *api.LeaderSetup) { s.Set.Beat = span(50, 60) }))
	fails(t, apart, api.ErrNone, "pitch demung", "pitch saron", "even")
	fails(t, apart, api.ErrLeaderUnknown, "pitch gong")
	says(t, apart, [2]string{"wrong", "demung"})
	alone := started(t, with(func(s *api.LeaderSetup) { s.Set.Pairs = nil }))
	fails(t, alone, api.ErrNone, "even")
	says(t, alone, [2]string{"pitch demung", "200 204"}, [2]string{"wrong", "-"})
	both := withKeys("a", "b", "c", "d", "e", "f")
	both.Set.Scales = []api.TuneScale{{Keys: of(0, 1), Steps: []api.Span{span(2000, 2000)}}, {Keys: of(4, 5, 2), Steps: []api.Span{span(1000, 1000), span(900, 1000)}}}
	both.Set.Pairs, both.Set.Beat = [][2]int{{2, 3}}, span(30, 40)
	h := started(t, both)
	fails(t, h, api.ErrNone, "pitch a", "pitch f", "even")
	says(t, h, [2]string{"wrong", "a c"})
	later := started(t, with(func(s *api.LeaderSetup) { s.Set.Heard[0], s.Set.Heard[1] = span(200, 204), span(208, 220) }))
	says(t, later, [2]string{"pitch demung", "201 204"}, [2]string{"pitch saron", "208 211"}, [2]string{"even", "4 4"})
}

// full returns a gang whose journal has so many lines.
func full(t *testing.T, lines int) *leader.Gang {
	t.Helper()
	g := started(t, example())
	for range lines {
		does(t, g, "piece lancar")
	}
	return g
}

// P11.2: a journal that is full; that comes behind the form, and before all other errors.
func TestFull(t *testing.T) {
	g := full(t, 299)
	fails(t, g, api.ErrLeaderUnknown, "hear gong 7")
	does(t, g, "note 0 0 1")
	fails(t, g, api.ErrFull, "piece lancar", "piece gong", "hear demung 7", "hear gong 7", "hear saron 99", "stroke demung 1", "note 0 0 1", "note 7 7 1", "part 1", "part 9", "scene 60", "scene 0", "leave", "pay")
	fails(t, g, api.ErrLeaderLine, "", "piece", "hear demung", "hear demung 007", "note 0 0 7", "part x", "pay 1", "leave ")
	fails(t, g, api.ErrLeaderUnknown, "tool gong", "played gong")
	fails(t, g, api.ErrLeaderMute, "tool demung")
	says(t, g, [2]string{"played lancar", "299"}, [2]string{"may", "1"}, [2]string{"read lancar 0 0", "4"})
	if journal := g.Journal(); len(journal) != 300 || journal[0] != "piece lancar" || journal[299] != "note 0 0 1" {
		t.Errorf("%d lines: %q", len(journal), journal)
	}
	six := started(t, example())
	for range 49 {
		does(t, six, "note 0 0 0", "note 0 0 0", "note 0 0 0", "note 0 0 0", "note 0 0 0", "piece lancar")
	}
	does(t, six, "note 0 0 0", "note 0 0 0", "note 0 0 0", "note 0 0 0", "note 0 0 0", "note 0 0 0")
	if len(six.Journal()) != 300 {
		t.Errorf("%d lines", len(six.Journal()))
	}
	fails(t, six, api.ErrFull, "note 7 0 0")
}

// season is lines of the examples that change something.
func season() []string {
	return names("hear demung 7", "hear saron -7", "stroke demung -4", "stroke demung -6", "stroke demung 2", "note 1 0 241", "note 1 0 22", "piece lancar", "part 1", "part 1", "part 2", "part 2", "scene 60", "scene 50", "scene 40", "scene 90", "scene 60", "scene 60", "scene 80", "leave", "pay", "stroke saron 3", "note 0 0 42", "note 6 6 0", "part 1", "scene 61", "leave")
}

// fileOf returns a file of these lines.
func fileOf(lines ...string) string {
	var file strings.Builder
	for _, line := range lines {
		file.WriteString(line + "\n")
	}
	return file.String()
}

// wantOpen checks what Open says of a file, and that there is no gang with an error.
func wantOpen(t *testing.T, name, file string, at int, want api.Errno) *leader.Gang {
	t.Helper()
	g, n, e := leader.Open(example(), file)
	if n != at || e != want || (g != nil) != (want == api.OK) {
		t.Errorf("Open of %s: %v, %d, %d, not %d, %d", name, g != nil, n, e, at, want)
	}
	return g
}

// P11.3, P11.4, P11.6: a gang of whose file there is a gang again.
func TestFile(t *testing.T) {
	g := started(t, example())
	does(t, g, season()...)
	if journal := g.Journal(); !slices.Equal(journal, season()) {
		t.Errorf("Journal: %q", journal)
	}
	if file := g.File(); file != fileOf(season()...) {
		t.Errorf("File: %q", file)
	}
	const has = "keys [{true -1 1 3} {true -4 2 1}] notes [{[4 2] [] 0 0} {[0] [] 6 6}] path [1] done [61 -1] played [1 0 0] got [361 241 241] counts 1 1 "
	if is := shown(g); !strings.HasPrefix(is, has) {
		t.Errorf("the gang has %s", is)
	}
	for lines := range len(season()) + 1 {
		part := started(t, example())
		does(t, part, season()[:lines]...)
		again := wantOpen(t, "some lines", part.File(), lines, api.OK)
		if one, other := shown(part), shown(again); one != other {
			t.Fatalf("%d lines: %s, and opened %s", lines, one, other)
		}
		does(t, again, season()[lines:]...)
		if one, other := shown(g), shown(again); one != other {
			t.Fatalf("behind %d lines: %s, not %s", lines, other, one)
		}
	}
}

// P11.4, R1, R2: files that are not as they should be.
func TestOpen(t *testing.T) {
	wantOpen(t, "nothing", "", 0, api.OK)
	wantOpen(t, "a line", "pay", 0, api.ErrForm)
	wantOpen(t, "a byte", "x", 0, api.ErrForm)
	wantOpen(t, "a line that does not end", fileOf(season()...)+"part 2", 0, api.ErrForm)
	wantOpen(t, "another end", "part 1\r", 0, api.ErrForm)
	wantOpen(t, "an empty line", "\n", 0, api.ErrLeaderLine)
	wantOpen(t, "an empty line at the end", "part 1\n\n", 1, api.ErrLeaderLine)
	wantOpen(t, "an empty line at first", "\npart 1\n", 0, api.ErrLeaderLine)
	wantOpen(t, "two bytes at the end", "part 1\r\n", 0, api.ErrLeaderLine)
	wantOpen(t, "a blank at the end", "part 1\npart 1 \n", 1, api.ErrLeaderLine)
	wantOpen(t, "an error", fileOf("part 1", "part 1", "part 1", "part 9"), 2, api.ErrLeaderFalse)
	wantOpen(t, "an error at first", fileOf("pay", "part 9"), 0, api.ErrLeaderEarly)
	wantOpen(t, "another error", fileOf("hear saron -7", "hear saron -7"), 1, api.ErrLeaderTwice)
	wantOpen(t, "a name", fileOf("hear demung 7", "hear gong 7"), 1, api.ErrLeaderUnknown)
	wantOpen(t, "a number", fileOf("hear demung 7", "scene 60", "scene 49"), 2, api.ErrRange)
	wantOpen(t, "a line that does not have the form", fileOf("part 1", "part", "part 9"), 1, api.ErrLeaderLine)
	wantOpen(t, "a zero", fileOf("part 1", "part \x001"), 1, api.ErrLeaderLine)
	for word, behind := range forms() {
		if want := api.ErrLeaderLine; !slices.Contains(names("hear", "stroke", "note", "piece", "part", "scene", "leave", "pay"), word) {
			wantOpen(t, "a line that asks", fileOf("part 1", word+behind, "part 9"), 1, want)
			wantOpen(t, "a line that asks at the end", fileOf("part 1", "note 0 0 1", word+behind), 2, want)
			wantOpen(t, "a line that asks, and is an error", fileOf(strings.Replace(strings.Replace(word+behind, "demung", "gong", 1), "0", "9", 1)), 0, want)
			wantOpen(t, "a line that asks, without the form", fileOf(word+behind+" "), 0, want)
		}
	}
	lines := slices.Repeat(names("piece lancar"), 300)
	if g := wantOpen(t, "300 lines", fileOf(lines...), 300, api.OK); g != nil {
		says(t, g, [2]string{"played lancar", "300"})
		fails(t, g, api.ErrFull, "piece lancar")
	}
	wantOpen(t, "301 lines", fileOf(append(lines, "piece lancar")...), 300, api.ErrFull)
	wantOpen(t, "300 lines and an error", fileOf(append(lines, "piece gong")...), 300, api.ErrFull)
	wantOpen(t, "300 lines and a wrong one", fileOf(append(lines, "piece")...), 300, api.ErrLeaderLine)
	wantOpen(t, "300 lines and one that asks", fileOf(append(lines, "pieces")...), 300, api.ErrLeaderLine)
	long := strings.Repeat("x", 65535)
	wantOpen(t, "a long line", long+"\n", 0, api.ErrLeaderLine)
	wantOpen(t, "a long file that does not end", long+"x", 0, api.ErrForm)
	wantOpen(t, "a file that is too long", long+"x\n", 0, api.ErrLong)
	wantOpen(t, "a file that is too long, and does not end", long+"xx", 0, api.ErrLong)
	wantOpen(t, "many empty lines", strings.Repeat("\n", 65536), 0, api.ErrLeaderLine)
	wantOpen(t, "too many empty lines", strings.Repeat("\n", 65537), 0, api.ErrLong)
	wantOpen(t, "good lines, but too many of them", strings.Repeat("piece lancar\n", 65537/13+1), 0, api.ErrLong)
}

// lists are all lists of a setup, by what points to them, with lists within lists behind those that they are in.
func lists(s *api.LeaderSetup) []any {
	all := []any{&s.Keys, &s.Set.Heard, &s.Set.Scales, &s.Set.Pairs, &s.Shop.Tools, &s.Shop.Keys, &s.Pieces, &s.Book.Forms.Forms, &s.Book.Pieces, &s.Drum.Beats, &s.Drum.Players, &s.Night.Opens, &s.Night.Ends, &s.Night.Scenes, &s.Night.Loads, &s.Night.Shares}
	for i := range s.Set.Scales {
		all = append(all, &s.Set.Scales[i].Keys, &s.Set.Scales[i].Steps)
	}
	for i := range s.Book.Forms.Forms {
		strokes := &s.Book.Forms.Forms[i].Strokes
		all = append(all, strokes)
		for j := range *strokes {
			all = append(all, &(*strokes)[j])
		}
	}
	for i := range s.Book.Pieces {
		all = append(all, &s.Book.Pieces[i].Tones)
	}
	for i := range s.Drum.Players {
		all = append(all, &s.Drum.Players[i].Catch)
	}
	return all
}

// withScales is a setup that has all lists that there can be.
func withScales() api.LeaderSetup {
	s := withKeys("a", "b", "c", "d")
	s.Set.Scales = []api.TuneScale{{Keys: of(0, 2), Steps: []api.Span{span(900, 1100)}}, {Keys: of(1, 3), Steps: []api.Span{span(900, 1100)}}}
	s.Set.Pairs, s.Set.Beat = [][2]int{{0, 1}}, span(0, 9)
	return s
}

// P11.5, R4: arguments are only read, also behind their ends.
func TestArguments(t *testing.T) {
	s, same := withScales(), withScales()
	var behind []reflect.Value
	for _, list := range lists(&s) {
		l := reflect.ValueOf(list).Elem()
		longer := reflect.MakeSlice(l.Type(), l.Len()+1, l.Len()+1)
		reflect.Copy(longer, l)
		l.Set(longer.Slice(0, l.Len()))
		behind = append(behind, longer.Index(longer.Len()-1))
	}
	leader.Check(s)
	g := started(t, s)
	does(t, g, "hear a 5", "note 1 1 12", "piece ladrang", "part 1", "scene 60", "cue", "spare", "wrong", "may", "pieces", "even", "tool a", "pitch b")
	if _, _, e := leader.Open(s, g.File()); e != api.OK {
		t.Errorf("Open: %d", e)
	}
	if !reflect.DeepEqual(s, same) {
		t.Errorf("%v was %v", s, same)
	}
	for i, value := range behind {
		if !value.IsZero() {
			t.Errorf("behind the list %d: %v", i, value)
		}
	}
}

// asked returns the answers to lines that ask.
func asked(g *leader.Gang) string {
	var all []string
	for _, line := range names("tool a", "tool b", "off a", "pitch a", "pitch b", "pitch c", "pitch d", "even", "wrong", "pieces", "read lancar 0 0", "read ladrang 0 1", "may", "cue", "spare", "played lancar", "got 0", "got 1", "got 2", "cycles", "nights") {
		answer, e := g.Do(line)
		all = append(all, fmt.Sprint(line, ": ", answer, " ", int(e)))
	}
	return strings.Join(all, "; ")
}

// P11.5, R4: a setup is copied, whatever becomes of it then.
func TestSetupIsCopied(t *testing.T) {
	lines := names("hear a 5", "note 1 1 12", "note 2 1 24", "part 1", "scene 60")
	want := started(t, withScales())
	does(t, want, lines...)
	for number := range lists(&api.LeaderSetup{Set: withScales().Set, Book: withScales().Book, Drum: withScales().Drum}) {
		s := withScales()
		g := started(t, s)
		opened, _, e := leader.Open(s, fileOf(lines...))
		if e != api.OK {
			t.Fatalf("Open: %d", e)
		}
		does(t, g, lines[:2]...)
		list := reflect.ValueOf(lists(&s)[number]).Elem()
		for i := range list.Len() {
			list.Index(i).SetZero()
		}
		does(t, g, lines[2:]...)
		for _, is := range []*leader.Gang{g, opened} {
			if shown(is) != shown(want) || asked(is) != asked(want) {
				t.Errorf("after the list %d was changed: %s, %s, not %s, %s", number, shown(is), asked(is), shown(want), asked(want))
			}
		}
	}
}

// P11.5, R4: results are new memory.
func TestMemory(t *testing.T) {
	g := started(t, example())
	does(t, g, season()...)
	want := shown(g)
	for range 2 {
		// What is appended must not get into the next list that the gang tells.
		_, _, _ = append(g.Keys(), api.LeaderKey{}), append(g.Notes(), api.HeardNote{}), append(g.Journal(), "x")
		for _, list := range [][]int{g.Path(), g.Done(), g.Played(), g.Got(), g.Notes()[0].Tones, g.Notes()[1].Tones} {
			for i := range append(list, -9) {
				if i < len(list) {
					list[i] = -9
				}
			}
		}
		g.Keys()[0], g.Notes()[0], g.Journal()[0] = api.LeaderKey{}, api.HeardNote{}, "x"
		if is := shown(g); is != want {
			t.Fatalf("the gang has %s after results were changed, not %s", is, want)
		}
	}
	path, done, notes, journal := g.Path(), g.Done(), g.Notes(), g.Journal()
	before := fmt.Sprint(path, done, notes, journal)
	does(t, g, "part 1", "scene 40", "note 0 0 5", "stroke saron 2")
	if after := fmt.Sprint(path, done, notes, journal); after != before {
		t.Errorf("%s after more lines, not %s", after, before)
	}
}

// R3: nil and empty are the same.
func TestNilAndEmpty(t *testing.T) {
	empty := api.LeaderSetup{Keys: names(), Pieces: names(), Set: api.TuneSet{Heard: []api.Span{}, Scales: []api.TuneScale{}, Pairs: [][2]int{}}}
	if e := leader.Check(empty); e != api.ErrLeader {
		t.Errorf("the empty setup: %d", e)
	}
	one, other := started(t, with(func(s *api.LeaderSetup) { s.Set.Scales, s.Set.Pairs, s.Night.Loads = nil, nil, nil })), started(t, with(func(s *api.LeaderSetup) {
		s.Set.Scales, s.Set.Pairs, s.Night.Loads = []api.TuneScale{}, [][2]int{}, of()
	}))
	does(t, one, season()...)
	does(t, other, season()...)
	if shown(one) != shown(other) || asked(one) != asked(other) {
		t.Errorf("%s, %s, not %s, %s", shown(other), asked(other), shown(one), asked(one))
	}
}

// P2: the same lines have the same answers, whatever other gangs do between.
func TestSameAgain(t *testing.T) {
	answers := func(g, between *leader.Gang) string {
		var all []string
		for _, line := range season() {
			answer, e := g.Do(line)
			between.Do(line)
			between.Do("part 1")
			all = append(all, fmt.Sprint(answer, int(e), asked(g)))
		}
		return strings.Join(all, "; ")
	}
	want := answers(started(t, example()), nil)
	for name, s := range validSetups() {
		if again := answers(started(t, example()), started(t, s)); again != want {
			t.Errorf("with %s between: %s, not %s", name, again, want)
		}
		leader.Check(wrongSetups()[name])
		leader.Open(s, "x")
	}
}
