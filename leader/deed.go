package leader

import (
	"strconv"
	"strings"

	"saron/api"
)

// deed is what a line does: which tokens stand behind its word, a letter for each; whether it changes something; and how it is done.
type deed struct {
	form    string
	changes bool
	do      func(t turn) string
}

// deeds returns what each word does.
func deeds() map[string]deed {
	return map[string]deed{
		"hear":   {"KZ", true, turn.hear},
		"stroke": {"KZ", true, turn.stroke},
		"note":   {"NMT", true, turn.note},
		"piece":  {"P", true, turn.piece},
		"part":   {"N", true, turn.part},
		"scene":  {"N", true, turn.scene},
		"leave":  {"", true, turn.leave},
		"pay":    {"", true, turn.pay},

		"tool":   {"K", false, turn.tool},
		"off":    {"K", false, turn.off},
		"pitch":  {"K", false, turn.pitch},
		"even":   {"", false, turn.even},
		"wrong":  {"", false, turn.wrong},
		"pieces": {"", false, turn.pieces},
		"read":   {"PNM", false, turn.read},
		"may":    {"", false, turn.may},
		"cue":    {"", false, turn.cue},
		"spare":  {"", false, turn.spare},
		"played": {"P", false, turn.timesPlayed},
		"got":    {"N", false, turn.coinsGot},
		"cycles": {"", false, turn.manyCycles},
		"nights": {"", false, turn.manyNights},
	}
}

// turn is a line that is done: what it says, and what the gang has, which changes with it.
type turn struct {
	order
	*state
}

// Whether a line is done for the first time, or again, as a file has it: then it must be one that changes something.
const (
	anew  = false
	again = true
)

// obey does a line. One that is an error is left by a panic with the error, ahead of all that it would change.
func (s *state) obey(line string, isAgain bool) (answer string, e api.Errno) {
	defer func() {
		// Nothing panics but must, whose value is an error.
		e, _ = recover().(api.Errno)
	}()
	t := turn{read(line), s}
	mustHaveForm(t.changes || !isAgain)
	must(!t.changes || !t.isFull(), api.ErrFull)
	answer = t.do(t)
	if t.changes {
		t.journal = append(t.journal, strings.Clone(line))
	}
	return answer, api.OK
}

// who returns the number of the one of these names that the line says.
func (t turn) who(names []string) int {
	number := finder(names)(t.name)
	must(number != nobody, api.ErrLeaderUnknown)
	return number
}

// told is the answer that tells some texts; nothing, if there are none.
func told(texts ...string) string {
	if len(texts) == 0 {
		return nothing
	}
	return strings.Join(texts, blank)
}

// counted is the answer that tells some numbers.
func counted(numbers ...int) string {
	var texts []string
	for _, number := range numbers {
		texts = append(texts, strconv.Itoa(number))
	}
	return told(texts...)
}

// named is the answer that tells the names of some numbers.
func named(names []string, numbers ...int) string {
	var texts []string
	for _, number := range numbers {
		texts = append(texts, names[number])
	}
	return told(texts...)
}
