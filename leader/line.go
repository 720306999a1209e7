package leader

import (
	"iter"
	"strconv"
	"strings"

	"saron/api"
)

const (
	blank    = " "
	lineFeed = "\n"
	minus    = "-"
)

// manyDigits is how many digits a number of a line has, at most.
const manyDigits = 6

// order is what a line says: what is to be done, and whatever stands behind the word for it.
type order struct {
	deed
	name    string
	numbers []int
	tones   []int
}

// must leaves a line that is an error, unless this is so.
func must(isSo bool, e api.Errno) {
	if !isSo {
		panic(e)
	}
}

// mustHaveForm leaves a line that does not have the form, unless this is so.
func mustHaveForm(isSo bool) { must(isSo, api.ErrLeaderLine) }

// parts goes through all parts of a text that this byte ends, each without it.
func parts(text string, end byte) iter.Seq[string] {
	return func(yield func(string) bool) {
		rest := text
		for at := strings.IndexByte(rest, end); at >= 0; at = strings.IndexByte(rest, end) {
			if !yield(rest[:at]) {
				return
			}
			rest = rest[at+1:]
		}
	}
}

// read returns what a line says.
func read(line string) order {
	mustHaveForm(len(line) <= api.LeaderLine)
	var tokens []string
	for token := range parts(line+blank, blank[0]) {
		tokens = append(tokens, token)
	}
	d, isKnown := deeds()[tokens[0]]
	mustHaveForm(isKnown && len(tokens)-1 == len(d.form))
	o := order{deed: d}
	for number, token := range tokens[1:] {
		o.take(d.form[number], token)
	}
	return o
}

// take adds a token of a kind: a letter of the form.
func (o *order) take(kind byte, token string) {
	switch kind {
	case 'K', 'P':
		mustHaveForm(token != "")
		o.name = token
	case 'N', 'M':
		o.numbers = append(o.numbers, number(token))
	case 'Z':
		o.numbers = append(o.numbers, signed(token))
	case 'T':
		o.tones = tones(token)
	}
}

func number(token string) int {
	mustHaveForm(areDigits(token, manyDigits, '9') && (token[0] != '0' || len(token) == 1))
	n, _ := strconv.Atoi(token) // it has no error: it is few digits
	return n
}

func signed(token string) int {
	digits, isBelow := strings.CutPrefix(token, minus)
	n := number(digits)
	if !isBelow {
		return n
	}
	mustHaveForm(n != 0)
	return -n
}

func tones(token string) []int {
	mustHaveForm(areDigits(token, api.HeardStrokes, '0'+api.HeardTones-1))
	var list []int
	for at := range len(token) {
		list = append(list, int(token[at]-'0'))
	}
	return list[:len(list):len(list)]
}

// areDigits reports whether a token is 1 to so many digits, none of them above the last one.
func areDigits(token string, many int, last byte) bool {
	for at := range len(token) {
		if token[at] < '0' || token[at] > last {
			return false
		}
	}
	return 1 <= len(token) && len(token) <= many
}
