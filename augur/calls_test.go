package augur_test

import (
	"strings"
	"sync"
	"testing"

	"augur/augur"
)

// The calls have the signatures that the document lists.
var (
	_ func(string) (augur.Errno, int)                 = augur.Check
	_ func(string) (string, augur.Errno, int)         = augur.Follow
	_ func(string, string) (string, augur.Errno, int) = augur.Ask
	_ func(string, string) (string, augur.Errno, int) = augur.Why
	_ func(string) (*augur.Base, augur.Errno, int)    = augur.Start
	_ func(*augur.Base, string) augur.Errno           = (*augur.Base).Insert
	_ func(*augur.Base, string) augur.Errno           = (*augur.Base).Delete
	_ func(*augur.Base) string                        = (*augur.Base).Model
)

func TestErrnosHaveTheirNumbers(t *testing.T) {
	const first, last augur.Errno = augur.OK, augur.ErrThere
	all := []augur.Errno{
		first, augur.ErrLong, augur.ErrForm, augur.ErrMany, augur.ErrArity,
		augur.ErrUnsafe, augur.ErrStrata, augur.ErrNone, last,
	}
	for number, e := range all {
		if int(e) != number {
			t.Errorf("the constant number %d is %d", number, e)
		}
	}
}

// hostileTexts are no programs, or strange ones, of many kinds.
func hostileTexts() []string {
	texts := []string{
		"", " ", "\n", "\x00", "\xff", "\xc3", "é", "p(é).", "\U0001F600", "\t", "\r\n",
		":", ":-", "-", "!", "(", ")", ",", "=", "#", "<", ".", "!!", "p(a)::-q(a).",
		"p(a) :- !", "p(a) :- !!q(a).", "p(a", "p(a,", "p(X) :- X", "p(X) :- X <",
		strings.Repeat("(", 300), strings.Repeat("a", 300), strings.Repeat("0", 300),
		strings.Repeat("!", 300), strings.Repeat("\xff", 300), strings.Repeat("é", 150),
		"p(" + strings.Repeat("a,", 147) + "a).", "p(a):-" + strings.Repeat("a=a,", 72) + "a=a.",
		strings.Repeat("p(a).", 60), strings.Repeat("x", 301), strings.Repeat("\xff", 1000),
	}
	for b := range 256 {
		texts = append(texts, string([]byte{byte(b)}), "p("+string([]byte{byte(b)})+").")
	}
	return texts
}

// P1: none panics, whatever it is given.
func TestNoCallPanics(t *testing.T) {
	for _, text := range hostileTexts() {
		augur.Check(text)
		augur.Follow(text)
		augur.Ask(text, text)
		augur.Ask("p(a).", text)
		augur.Why(text, text)
		augur.Why("p(a).", text)
		augur.Start(text)
		if base, e, _ := augur.Start("p(a)."); e == augur.OK {
			base.Insert(text)
			base.Delete(text)
			base.Model()
		}
	}
}

// P1: a place is one of the text, and 0 beside OK.
func TestPlacesAreOfTheText(t *testing.T) {
	for _, text := range hostileTexts() {
		e, place := augur.Check(text)
		if place < 0 || place > len(text) || e == augur.OK && place != 0 {
			t.Errorf("P1: Check(%q) = %d, %d", text, e, place)
		}
		answer, e, place := augur.Ask("p(a).", text)
		if place < 0 || place > len(text) || e == augur.OK && place != 0 || e != augur.OK && answer != "" {
			t.Errorf("P1: Ask(.., %q) = %q, %d, %d", text, answer, e, place)
		}
	}
}

// P1: the length of a text that is too long is all that is looked at.
func TestLongTextsCostNothing(t *testing.T) {
	long := strings.Repeat("p(a).", 1_000_000)
	spent := testing.AllocsPerRun(10, func() {
		if e, place := augur.Check(long); e != augur.ErrLong || place != 0 {
			t.Errorf("P1: Check of %d bytes = %d, %d", len(long), e, place)
		}
		if answer, e, place := augur.Follow(long); answer != "" || e != augur.ErrLong || place != 0 {
			t.Errorf("P1: Follow of %d bytes = %q, %d, %d", len(long), answer, e, place)
		}
		if answer, e, place := augur.Ask(long, long); answer != "" || e != augur.ErrLong || place != 0 {
			t.Errorf("P1: Ask of %d bytes = %q, %d, %d", len(long), answer, e, place)
		}
		if answer, e, place := augur.Why(long, long); answer != "" || e != augur.ErrLong || place != 0 {
			t.Errorf("P1: Why of %d bytes = %q, %d, %d", len(long), answer, e, place)
		}
	})
	if spent != 0 {
		t.Errorf("P1: the calls with %d bytes took memory %v times", len(long), spent)
	}
}

// P1: nor is a question or a fact that is too long; the program is.
func TestLongQuestionsAndFactsCostNothing(t *testing.T) {
	const program = "p(a). q(X) :- p(X)."
	ofProgram := testing.AllocsPerRun(10, func() { augur.Check(program) })
	long := strings.Repeat("p(a),", 1_000_000)
	ofQuestion := testing.AllocsPerRun(10, func() {
		if answer, e, place := augur.Ask(program, long); answer != "" || e != augur.ErrLong || place != 0 {
			t.Errorf("P1: Ask of %d bytes = %q, %d, %d", len(long), answer, e, place)
		}
	})
	ofFact := testing.AllocsPerRun(10, func() {
		if answer, e, place := augur.Why(program, long); answer != "" || e != augur.ErrForm || place != 0 {
			t.Errorf("P1: Why of %d bytes = %q, %d, %d", len(long), answer, e, place)
		}
	})
	if ofQuestion != ofProgram || ofFact != ofProgram {
		t.Errorf("P1: memory was taken %v and %v times, of the program %v", ofQuestion, ofFact, ofProgram)
	}
}

// P2: what Check answers depends on its argument alone, whatever was asked
// ahead of it or is asked at the same time.
func TestCheckDependsOnItsArgumentAlone(t *testing.T) {
	type answer struct {
		e     augur.Errno
		place int
	}
	texts := hostileTexts()
	for _, c := range checkCases {
		texts = append(texts, c.program)
	}
	first := make([]answer, len(texts))
	for i, text := range texts {
		first[i].e, first[i].place = augur.Check(text)
	}
	var workers sync.WaitGroup
	for worker := range 8 {
		workers.Add(1)
		go func() {
			defer workers.Done()
			for step := range texts {
				i := (step*(2*worker+1) + worker) % len(texts)
				e, place := augur.Check(texts[i])
				if again := (answer{e, place}); again != first[i] {
					t.Errorf("P2: Check(%q) = %v, and at first %v", texts[i], again, first[i])
				}
			}
		}()
	}
	workers.Wait()
}
