package augur_test

import (
	"regexp"
	"strings"
	"testing"

	"augur/augur"
)

// programPattern is the document's grammar, written once more as a pattern.
func programPattern() *regexp.Regexp {
	expand := strings.NewReplacer("_", `[ \n]*`)
	word := `[a-z]{1,4}`
	term := `([A-Z]|` + word + `|0|[1-9][0-9]{0,2})`
	atom := word + `_\(_` + term + `(_,_` + term + `)*_\)`
	literal := `(` + atom + `|!_` + atom + `|` + term + `_[=#<]_` + term + `)`
	clause := atom + `_(:-_` + literal + `(_,_` + literal + `)*_)?\.`
	return regexp.MustCompile(expand.Replace(`\A_(` + clause + `_)*\z`))
}

// canGoOn tells whether a program begins so: wherever a program is cut, one of
// these ends makes a program of what is ahead.
func canGoOn(pattern *regexp.Regexp, begin string) bool {
	for _, rest := range []string{
		"", ".", ").", "a).", "(a).", "a(a).", "=a.", "a.", "a=a.", "-a=a.",
	} {
		if pattern.MatchString(begin + rest) {
			return true
		}
	}
	return false
}

// rowStart tells the first byte of the row in which a byte stands.
func rowStart(text string, place int) int {
	for _, row := range []string{"abcdefghijklmnopqrstuvwxyz", "0123456789"} {
		for strings.IndexByte(row, text[place]) >= 0 && place > 0 && strings.IndexByte(row, text[place-1]) >= 0 {
			place--
		}
	}
	return place
}

// walk holds Check against the pattern at all texts that go on from one, by so
// many bytes more, up to the byte at which they break off.
func walk(t *testing.T, pattern *regexp.Regexp, text string, more int) {
	e, place := augur.Check(text)
	if !canGoOn(pattern, text) {
		want := rowStart(text, len(text)-1)
		for _, rest := range []string{"", ".", "a", "0", " p(a)."} {
			if e, place := augur.Check(text + rest); e != augur.ErrForm || place != want {
				t.Errorf("P3: Check(%q) = %d, %d, want ErrForm, %d", text+rest, e, place, want)
			}
		}
		return
	}
	if pattern.MatchString(text) == (e == augur.ErrForm) || e == augur.ErrForm && place != len(text) {
		t.Errorf("P3: Check(%q) = %d, %d, though it can go on", text, e, place)
	}
	if more == 0 {
		return
	}
	for _, next := range []byte("az09AZ(),.:-!=#< \n\t;\x00\xc3\xff") {
		walk(t, pattern, text+string([]byte{next}), more-1)
	}
}

func TestCheckBreaksOffWhereTheGrammarDoes(t *testing.T) {
	pattern := programPattern()
	for _, start := range []string{
		"", "p(", "abcd", "p(abc", "p(10", "p(a", "p(a)", "p(a) :-", "p(a) :- q", "p(a) :- !",
		"p(a) :- q(a", "p(a) :- q(a)", "p(a) :- a", "p(a) :- X <", "p(a) :- X = 9", "p(a) :- q(a),",
	} {
		walk(t, pattern, start, 3)
	}
}
