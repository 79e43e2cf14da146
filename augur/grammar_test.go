package augur_test

import (
	"regexp"
	"strings"
	"testing"

	"augur/augur"
)

// grammar says what the texts of one kind are: by a pattern, and by ends, of
// which one makes such a text of every beginning of one.
type grammar struct {
	pattern *regexp.Regexp
	ends    []string
	call    func(text string) (augur.Errno, int)
}

// patternOf answers a pattern of whole texts, with blanks where `_` stands.
func patternOf(text string) *regexp.Regexp {
	return regexp.MustCompile(strings.ReplaceAll(`\A_`+text+`\z`, "_", `[ \n]*`))
}

// The document's grammar, written once more as patterns.
const (
	wordPattern    = `[a-z]{1,4}`
	termPattern    = `([A-Z]|` + wordPattern + `|0|[1-9][0-9]{0,2})`
	atomPattern    = wordPattern + `_\(_` + termPattern + `(_,_` + termPattern + `)*_\)`
	literalPattern = `(` + atomPattern + `|!_` + atomPattern + `|` + termPattern + `_[=#<]_` + termPattern + `)`
	bodyPattern    = literalPattern + `(_,_` + literalPattern + `)*_`
	clausePattern  = atomPattern + `_(:-_` + bodyPattern + `)?\.`
)

func programGrammar() grammar {
	return grammar{
		pattern: patternOf(`(` + clausePattern + `_)*`),
		ends:    []string{"", ".", ").", "a).", "(a).", "a(a).", "=a.", "a.", "a=a.", "-a=a."},
		call:    augur.Check,
	}
}

func questionGrammar() grammar {
	return grammar{
		pattern: patternOf(bodyPattern),
		ends:    []string{"", ")", "a)", "(a)", "a(a)", "=a", "a", "a=a"},
		call: func(text string) (augur.Errno, int) {
			_, e, place := augur.Ask("", text)
			return e, place
		},
	}
}

// canGoOn tells whether a text begins so.
func (g grammar) canGoOn(begin string) bool {
	for _, end := range g.ends {
		if g.pattern.MatchString(begin + end) {
			return true
		}
	}
	return false
}

// rowStart tells the first byte of the row in which a byte stands.
func rowStart(text string, place int) int {
	for _, row := range []string{"abcdefghijklmnopqrstuvwxyz", "0123456789"} {
		for strings.IndexByte(row, text[place]) >= 0 && place > 0 && strings.IndexByte(row, text[place-1]) >= 0 {
			place--
		}
	}
	return place
}

// walk holds the call against the pattern at all texts that go on from one, by
// so many bytes more, up to the byte at which they break off.
func (g grammar) walk(t *testing.T, text string, more int) {
	e, place := g.call(text)
	if !g.canGoOn(text) {
		want := rowStart(text, len(text)-1)
		for _, rest := range []string{"", ".", "a", "0", " p(a)."} {
			if e, place := g.call(text + rest); e != augur.ErrForm || place != want {
				t.Errorf("of %q: %d, %d, want ErrForm, %d", text+rest, e, place, want)
			}
		}
		return
	}
	if g.pattern.MatchString(text) == (e == augur.ErrForm) || e == augur.ErrForm && place != len(text) {
		t.Errorf("of %q: %d, %d, though it can go on", text, e, place)
	}
	if more == 0 {
		return
	}
	for _, next := range []byte("az09AZ(),.:-!=#< \n\t;\x00\xc3\xff") {
		g.walk(t, text+string([]byte{next}), more-1)
	}
}

// P3.
func TestCheckBreaksOffWhereTheGrammarDoes(t *testing.T) {
	for _, start := range []string{
		"", "p(", "abcd", "p(abc", "p(10", "p(a", "p(a)", "p(a) :-", "p(a) :- q", "p(a) :- !",
		"p(a) :- q(a", "p(a) :- q(a)", "p(a) :- a", "p(a) :- X <", "p(a) :- X = 9", "p(a) :- q(a),",
	} {
		programGrammar().walk(t, start, 3)
	}
}

// P6.
func TestAskBreaksOffWhereTheGrammarDoes(t *testing.T) {
	for _, start := range []string{
		"", "q", "!", "!abc", "q(", "q(a", "q(a)", "q(10", "a", "X <", "X = 9", "q(a),", "q(a), !q(X", "a = a, ",
	} {
		questionGrammar().walk(t, start, 3)
	}
}
