package augur_test

import (
	"maps"
	"regexp"
	"slices"
	"strings"
	"sync"
	"testing"
	"unsafe"

	"augur/augur"
)

// started answers a base of a program, which must be right.
func started(t *testing.T, program string) *augur.Base {
	t.Helper()
	base, e, place := augur.Start(program)
	if base == nil || e != augur.OK || place != 0 {
		t.Fatalf("P8: Start(%q) = %v, %d, %d", program, base, e, place)
	}
	return base
}

// move does a step: `+` and a fact to insert, or `-` and one to delete.
func move(base *augur.Base, step string) augur.Errno {
	if step[0] == '+' {
		return base.Insert(step[1:])
	}
	return base.Delete(step[1:])
}

// moveAll does steps with blanks between, none of which may be refused.
func moveAll(t *testing.T, base *augur.Base, steps string) {
	t.Helper()
	for _, step := range strings.Fields(steps) {
		if e := move(base, step); e != augur.OK {
			t.Errorf("P8: %q = %d", step, e)
		}
	}
}

// testModel holds what Model tells against facts with blanks between.
func testModel(t *testing.T, base *augur.Base, behind, facts string) {
	t.Helper()
	if got, want := base.Model(), told(facts); got != want {
		t.Errorf("P9: behind %q Model() = %q, want %q", behind, got, want)
	}
}

// modelCase is a program, steps that are not refused, with blanks between, and
// what Model tells then.
type modelCase struct {
	program, steps, facts string
}

func testModels(t *testing.T, cases []modelCase) {
	t.Helper()
	for _, c := range cases {
		base := started(t, c.program)
		moveAll(t, base, c.steps)
		testModel(t, base, c.program+" "+c.steps, c.facts)
	}
}

// P8: Start tells the error of Check with its place, and no base; else a base
// with nothing beside the program.
func TestStart(t *testing.T) {
	programs := append(hostileTexts(), strings.Repeat("p(a).", 13), strings.Repeat(" ", 301), documentProgram, ring)
	for _, c := range checkCases {
		programs = append(programs, c.program)
	}
	seen := make(map[augur.Errno]int)
	for _, program := range programs {
		wantE, wantPlace := augur.Check(program)
		seen[wantE]++
		base, e, place := augur.Start(program)
		if e != wantE || place != wantPlace || (base == nil) != (e != augur.OK) {
			t.Errorf("P8: Start(%q) = %v, %d, %d, want %d, %d", program, base, e, place, wantE, wantPlace)
		}
		if base == nil {
			continue
		}
		want, _, _ := augur.Follow(program)
		if got := base.Model(); got != want {
			t.Errorf("P9: of %q Model() = %q, want %q", program, got, want)
		}
	}
	for e := augur.OK; e <= augur.ErrStrata; e++ {
		if seen[e] == 0 {
			t.Errorf("no program has the error %d", e)
		}
	}
}

// P8: nothing is beside the program at first, not even what is in it or
// follows from it.
func TestNothingIsBesideAtFirst(t *testing.T) {
	const program = "p(a). p(b). q(X) :- p(X)."
	for _, fact := range []string{"p(a).", "p(b).", "q(a).", "q(b)."} {
		base := started(t, program)
		if e := base.Delete(fact); e != augur.ErrNone {
			t.Errorf("P8: Delete(%q) = %d, want ErrNone", fact, e)
		}
		if e := base.Insert(fact); e != augur.OK {
			t.Errorf("P8: Insert(%q) = %d", fact, e)
		}
	}
}

// P8: facts come and go, in this order: each step's error, and what Model tells
// behind it.
func TestFactsComeAndGo(t *testing.T) {
	base := started(t, "p(a). q(X) :- p(X). r(b) :- s(c).")
	behind := ""
	for _, c := range []struct {
		step  string
		e     augur.Errno
		facts string
	}{
		{"-p(b).", augur.ErrNone, "p(a). q(a)."},
		{"+p(b).", augur.OK, "p(a). p(b). q(a). q(b)."},
		{"+p(b).", augur.ErrThere, "p(a). p(b). q(a). q(b)."},
		// It follows, and is not beside the program.
		{"-q(b).", augur.ErrNone, "p(a). p(b). q(a). q(b)."},
		{"+q(b).", augur.OK, "p(a). p(b). q(a). q(b)."},
		{"+q(b).", augur.ErrThere, "p(a). p(b). q(a). q(b)."},
		{"-p(b).", augur.OK, "p(a). q(a). q(b)."},
		{"-p(b).", augur.ErrNone, "p(a). q(a). q(b)."},
		{"-q(b).", augur.OK, "p(a). q(a)."},
		{"-q(b).", augur.ErrNone, "p(a). q(a)."},
		// It is in the program, and not beside it.
		{"-p(a).", augur.ErrNone, "p(a). q(a)."},
		{"+p(a).", augur.OK, "p(a). q(a)."},
		{"+p(a).", augur.ErrThere, "p(a). q(a)."},
		{"-p(a).", augur.OK, "p(a). q(a)."},
		{"-p(a).", augur.ErrNone, "p(a). q(a)."},
		{"+p(a).", augur.OK, "p(a). q(a)."},
		// Again behind Delete.
		{"+p(b).", augur.OK, "p(a). p(b). q(a). q(b)."},
		{"-p(b).", augur.OK, "p(a). q(a)."},
		{"+p(b).", augur.OK, "p(a). p(b). q(a). q(b)."},
		// The relation stands in a body alone.
		{"+s(a).", augur.OK, "p(a). p(b). q(a). q(b). s(a)."},
		{"+s(c).", augur.OK, "p(a). p(b). q(a). q(b). r(b). s(a). s(c)."},
		{"-s(a).", augur.OK, "p(a). p(b). q(a). q(b). r(b). s(c)."},
		{"-s(c).", augur.OK, "p(a). p(b). q(a). q(b)."},
		{"-s(b).", augur.ErrNone, "p(a). p(b). q(a). q(b)."},
	} {
		behind += " " + c.step
		if e := move(base, c.step); e != c.e {
			t.Errorf("P8: the last of %q = %d, want %d", behind, e, c.e)
		}
		testModel(t, base, behind, c.facts)
	}
}

// factCase is a program, a fact, and what Insert and Delete tell of it, where
// nothing is beside the program.
type factCase struct {
	program, fact  string
	insert, remove augur.Errno
}

// P8: each error of a fact, and the first one where several apply. Nothing is
// changed by what is refused.
func TestErrorsOfFacts(t *testing.T) {
	const (
		ones    = "p(a). q(X) :- p(X), !r(X), X # b."
		twos    = "e(a,10). f(X,Y) :- e(X,Y), !g(Y,X). h(c) :- 7 < d, X = X, e(X,k)."
		ok      = augur.OK
		none    = augur.ErrNone
		arity   = augur.ErrArity
		badForm = augur.ErrForm
	)
	for _, c := range []factCase{
		// What can be there: relations of heads and of bodies, also with `!`.
		{ones, "p(a).", ok, none},
		{ones, "q(a).", ok, none},
		{ones, "r(a).", ok, none},
		{twos, "e(10,a).", ok, none},
		{twos, "f(a,a).", ok, none},
		{twos, "g(a,10).", ok, none},
		{twos, "h(a).", ok, none},
		// Things of comparisons, of heads alone, of bodies alone.
		{ones, "p(b).", ok, none},
		{twos, "e(7,d).", ok, none},
		{twos, "e(k,k).", ok, none},
		{twos, "h(c).", ok, none},
		{twos, "g(c,7).", ok, none},
		{"p(a) :- !q(10). r(X) :- p(X), X < 999.", "q(999).", ok, none},
		// A thing that is none of the program's.
		{ones, "p(c).", none, none},
		{ones, "r(ab).", none, none},
		{ones, "q(x).", none, none}, // its letter is a VARIABLE's
		{ones, "p(p).", none, none}, // its word is a relation's
		{twos, "e(a,1).", none, none},
		{twos, "e(1,a).", none, none},
		{twos, "e(100,a).", none, none},
		{twos, "f(zz,zz).", none, none},
		{twos, "h(h).", none, none},
		{"p(1). p(100).", "p(10).", none, none},
		{"p(X) :- q(X).", "p(a).", none, none},
		{"p(X) :- q(X).", "q(0).", none, none},
		// A relation that is none of the program's.
		{ones, "s(a).", arity, arity},
		{ones, "a(a).", arity, arity}, // its word is a thing's
		{ones, "pp(a).", arity, arity},
		{twos, "d(a,a).", arity, arity},
		{"", "p(a).", arity, arity},
		{" \n", "p(a,b).", arity, arity},
		// One with another number of arguments.
		{ones, "p(a,a).", arity, arity},
		{ones, "q(a,b).", arity, arity},
		{ones, "r(a,b).", arity, arity},
		{twos, "e(a).", arity, arity},
		{twos, "f(10).", arity, arity},
		{twos, "g(a).", arity, arity},
		{twos, "h(a,a).", arity, arity},
		// ErrArity is named ahead of ErrNone.
		{ones, "s(zz).", arity, arity},
		{ones, "p(zz,1).", arity, arity},
		{twos, "e(zz).", arity, arity},
		{"", "p(0).", arity, arity},
		// ErrForm is named ahead of both.
		{ones, "p(X).", badForm, badForm},
		{ones, "p(a)", badForm, badForm},
		{ones, "p(a,a,a).", badForm, badForm},
		{ones, "s(X).", badForm, badForm},
		{ones, "s(zz) .", badForm, badForm},
		{ones, "s(zz,zz,zz).", badForm, badForm},
		{twos, "e(zz, zz).", badForm, badForm},
		{twos, "e(a,010).", badForm, badForm},
		{twos, "e(a,\n10).", badForm, badForm},
		{"", "", badForm, badForm},
		{"", "p(a,b,c).", badForm, badForm},
	} {
		want, _, _ := augur.Follow(c.program)
		base := started(t, c.program)
		if e := base.Delete(c.fact); e != c.remove {
			t.Errorf("P8: of %q Delete(%q) = %d, want %d", c.program, c.fact, e, c.remove)
		}
		if got := base.Model(); got != want {
			t.Errorf("P8: of %q behind Delete(%q) Model() = %q, want %q", c.program, c.fact, got, want)
		}
		if e := base.Insert(c.fact); e != c.insert {
			t.Errorf("P8: of %q Insert(%q) = %d, want %d", c.program, c.fact, e, c.insert)
		}
		if got := base.Model(); c.insert != ok && got != want {
			t.Errorf("P8: of %q behind Insert(%q) Model() = %q, want %q", c.program, c.fact, got, want)
		}
		// A second time: it is there, or the error is as it was.
		insert, remove := c.insert, c.remove
		if c.insert == ok {
			insert, remove = augur.ErrThere, ok
		}
		if e := base.Insert(c.fact); e != insert {
			t.Errorf("P8: of %q Insert(%q) again = %d, want %d", c.program, c.fact, e, insert)
		}
		if e := base.Delete(c.fact); e != remove {
			t.Errorf("P8: of %q Delete(%q) behind Insert = %d, want %d", c.program, c.fact, e, remove)
		}
	}
}

// P8: a text that is no fact as it is written, also where it would be there.
func TestNoFactIsTaken(t *testing.T) {
	for _, program := range []string{"p(a). p(X) :- q(X). q(0).", "p(a,b) :- r(a).", ""} {
		base := started(t, program)
		base.Insert("p(0).")
		base.Insert("p(a,b).")
		before := base.Model()
		for _, text := range noFacts() {
			if e := base.Insert(text); e != augur.ErrForm {
				t.Errorf("P8: of %q Insert(%.40q) = %d, want ErrForm", program, text, e)
			}
			if e := base.Delete(text); e != augur.ErrForm {
				t.Errorf("P8: of %q Delete(%.40q) = %d, want ErrForm", program, text, e)
			}
		}
		if got := base.Model(); got != before {
			t.Errorf("P8: of %q Model() = %q, and before %q", program, got, before)
		}
	}
}

// P8: what is refused changes nothing of what is beside the program.
func TestRefusalsChangeNothing(t *testing.T) {
	const program = "p(a). q(X,b) :- p(X), !r(X)."
	beside := []string{"p(b).", "r(a).", "q(a,a).", "p(a)."}
	base := started(t, program)
	for _, fact := range beside {
		moveAll(t, base, "+"+fact)
	}
	const facts = "p(a). p(b). q(a,a). q(b,b). r(a)."
	for _, step := range []string{
		"+p(b).", "+r(a).", "+q(a,a).", "+p(a).", // there
		"-r(b).", "-q(a,b).", "-q(b,b).", // not there
		"+p(c).", "-p(c).", "+q(a,c).", "-q(c,a).", // no things of the program
		"+p(a,a).", "-p(a,a).", "+q(a).", "-q(a).", "+s(a).", "-s(a).",
		"+p(X).", "-p(X).", "+p(b)", "-p(b)", "- p(b).", "-p(b). ", "+", "-", "-p(a).p(b).", "-q(a,a,a).",
	} {
		if e := move(base, step); e == augur.OK {
			t.Errorf("P8: %q is not refused", step)
		}
		testModel(t, base, step, facts)
	}
	for _, fact := range beside {
		if e := base.Insert(fact); e != augur.ErrThere {
			t.Errorf("P8: Insert(%q) = %d, want ErrThere", fact, e)
		}
		moveAll(t, base, "-"+fact)
	}
	testModel(t, base, "all are gone", "p(a). q(a,b).")
}

// P9: facts beside the program are as its own.
func TestModelFollowsFromWhatIsBeside(t *testing.T) {
	const ways = "e(a,b). p(X,Y) :- e(X,Y). p(X,Z) :- e(X,Y), p(Y,Z). n(X) :- c(X), X # d."
	testModels(t, []modelCase{
		{ways, "", "e(a,b). p(a,b)."},
		{ways, "+e(b,d).", "e(a,b). e(b,d). p(a,b). p(a,d). p(b,d)."},
		{ways, "+p(b,d).", "e(a,b). p(a,b). p(a,d). p(b,d)."},
		{ways, "+e(b,a).", "e(a,b). e(b,a). p(a,a). p(a,b). p(b,a). p(b,b)."},
		{ways, "+c(d). +c(a).", "c(a). c(d). e(a,b). n(a). p(a,b)."},
		{ways, "+n(d).", "e(a,b). n(d). p(a,b)."},
		{ways, "+e(a,b). +p(a,b).", "e(a,b). p(a,b)."},
		{ways, "+e(b,d). +e(d,d). -e(b,d).", "e(a,b). e(d,d). p(a,b). p(d,d)."},
		// A ring does not hold itself, when what it came by has gone.
		{ring, "+p(a). -p(a).", "p(a). q(a). r(a)."},
		{"p(X) :- q(X). q(X) :- p(X), X # b.", "+p(b).", "p(b)."},
		{"p(X) :- q(X). q(X) :- p(X), X # b.", "+p(b). +q(b). -p(b). -q(b).", ""},
		{"p(X,Y) :- p(Y,X). q(a,b) :- p(X,X).", "+p(a,b). -p(a,b).", ""},
		{"p(X,Y) :- p(Y,X). q(a,b) :- p(X,X).", "+p(a,b). +p(b,a). -p(a,b).", "p(a,b). p(b,a)."},
		// Two ways to one fact, of which one goes.
		{"p(X) :- q(X). p(X) :- r(X). s(a).", "+q(a). +r(a). -q(a).", "p(a). r(a). s(a)."},
		{"p(X) :- q(X). p(X) :- r(X). s(a).", "+q(a). +r(a). -q(a). -r(a).", "s(a)."},
		// NUMBERs by their worth.
		{"p(9). q(X) :- p(X), X < 10. r(100).", "+p(100). +p(10).", "p(9). p(10). p(100). q(9). r(100)."},
	})
}

// P9: what a `!` forbids goes when a fact comes, and comes when it goes.
func TestModelBelowAbsence(t *testing.T) {
	const (
		one   = "n(a). n(b). m(X) :- n(X), !k(X)."
		tower = "a(x) :- !b(x). b(x) :- !c(x). c(x) :- !d(x). d(x) :- !e(x)."
		ways  = "e(a,b). e(b,c). p(X,Y) :- e(X,Y). p(X,Z) :- e(X,Y), p(Y,Z). " +
			"n(X) :- e(X,Y). n(Y) :- e(X,Y). u(X,Y) :- n(X), n(Y), !p(X,Y)."
	)
	testModels(t, []modelCase{
		{one, "", "m(a). m(b). n(a). n(b)."},
		{one, "+k(a).", "k(a). m(b). n(a). n(b)."},
		{one, "+k(a). +k(b).", "k(a). k(b). n(a). n(b)."},
		{one, "+k(a). +k(b). -k(a).", "k(b). m(a). n(a). n(b)."},
		{one, "+k(a). -k(a).", "m(a). m(b). n(a). n(b)."},
		// A fact beside the program is there, though its clause does not hold.
		{one, "+m(a). +k(a). +k(b).", "k(a). k(b). m(a). n(a). n(b)."},
		{one, "+m(a). +k(a). -m(a).", "k(a). m(b). n(a). n(b)."},
		{tower, "", "b(x). d(x)."},
		{tower, "+e(x).", "a(x). c(x). e(x)."},
		{tower, "+e(x). +d(x).", "b(x). d(x). e(x)."},
		{tower, "+e(x). -e(x).", "b(x). d(x)."},
		{tower, "+c(x).", "a(x). c(x). d(x)."},
		{tower, "+a(x).", "a(x). b(x). d(x)."},
		{tower, "+c(x). +b(x). -c(x).", "b(x). d(x)."},
		{ways, "+e(c,a).", "e(a,b). e(b,c). e(c,a). n(a). n(b). n(c). " +
			"p(a,a). p(a,b). p(a,c). p(b,a). p(b,b). p(b,c). p(c,a). p(c,b). p(c,c)."},
		{ways, "+e(c,a). -e(c,a).", "e(a,b). e(b,c). n(a). n(b). n(c). p(a,b). p(a,c). p(b,c). " +
			"u(a,a). u(b,a). u(b,b). u(c,a). u(c,b). u(c,c)."},
		{ways, "+p(c,c).", "e(a,b). e(b,c). n(a). n(b). n(c). p(a,b). p(a,c). p(b,c). p(c,c). " +
			"u(a,a). u(b,a). u(b,b). u(c,a). u(c,b)."},
	})
}

// P9: however many facts there are beside the program, and however long they
// are together.
func TestModelOfAllFacts(t *testing.T) {
	const program = "aaaa(abcd,abce). bbbb(abcf,abcg) :- cccc(997,998), dddd(X,Y), !eeee(X,Y). ffff(X,Y) :- aaaa(X,Y)."
	things := []string{"997", "998", "abcd", "abce", "abcf", "abcg"}
	var all []string
	for _, name := range []string{"aaaa", "bbbb", "cccc", "dddd", "eeee", "ffff"} {
		for _, first := range things {
			for _, second := range things {
				all = append(all, name+"("+first+","+second+").")
			}
		}
	}
	base := started(t, program)
	for _, fact := range slices.Backward(all) {
		moveAll(t, base, "+"+fact)
	}
	testModel(t, base, "all", strings.Join(all, " "))
	for i, fact := range all {
		if i%3 > 0 {
			moveAll(t, base, "-"+fact)
		}
	}
	for i, fact := range all {
		want := augur.ErrNone
		if i%3 == 0 {
			want = augur.OK
		}
		if e := base.Delete(fact); e != want {
			t.Errorf("P8: Delete(%q) = %d, want %d", fact, e, want)
		}
	}
	testModel(t, base, "none", "aaaa(abcd,abce). ffff(abcd,abce).")
}

// P9: the limits are of the program alone, which may be just at them.
func TestModelOfAProgramAtTheLimits(t *testing.T) {
	twelve := strings.Repeat("p(a).", 10) + "q(X):-p(X),X#c."
	blanks := strings.Repeat(" ", 300-len(twelve)-len("p(b)."))
	testModels(t, []modelCase{
		{twelve + blanks + "p(b).", "+p(c). +q(c). +p(a). +q(a). -q(c).", "p(a). p(b). p(c). q(a). q(b)."},
		{twelve + "p(b).", "+p(c). +q(c).", "p(a). p(b). p(c). q(a). q(b). q(c)."},
	})
}

// P9: Model is told again and again, and the calls between that are refused do
// not count.
func TestModelTwice(t *testing.T) {
	base := started(t, "n(a). n(b). m(X) :- n(X), !k(X).")
	for range 3 {
		testModel(t, base, "nothing", "m(a). m(b). n(a). n(b).")
		testModel(t, base, "Model", "m(a). m(b). n(a). n(b).")
		moveAll(t, base, "+k(a).")
		testModel(t, base, "+k(a).", "k(a). m(b). n(a). n(b).")
		base.Insert("k(a).")
		base.Delete("k(b).")
		testModel(t, base, "refusals", "k(a). m(b). n(a). n(b).")
		moveAll(t, base, "-k(a).")
	}
}

// mirror is a base as the document tells of it, with the oracle for Model.
type mirror struct {
	rules  []rule
	beside map[string]bool
}

// refusal tells the error of a fact, but for those of what is beside.
func (m *mirror) refusal(text string) augur.Errno {
	form := regexp.MustCompile(`\A([a-z]{1,4})\((([a-z]{1,4}|0|[1-9][0-9]{0,2})(,([a-z]{1,4}|0|[1-9][0-9]{0,2}))?)\)\.\z`)
	parts := form.FindStringSubmatch(text)
	if parts == nil {
		return augur.ErrForm
	}
	given := strings.Split(parts[2], ",")
	stands := false
	for _, r := range m.rules {
		for _, p := range append([]piece{r.head}, r.body...) {
			stands = stands || p.name == parts[1] && len(p.terms) == len(given)
		}
	}
	if !stands {
		return augur.ErrArity
	}
	_, things := collect(m.rules)
	for _, thing := range given {
		if !slices.Contains(things, thing) {
			return augur.ErrNone
		}
	}
	return augur.OK
}

func (m *mirror) move(step string) augur.Errno {
	fact := step[1:]
	if e := m.refusal(fact); e != augur.OK {
		return e
	}
	switch {
	case step[0] == '+' && m.beside[fact]:
		return augur.ErrThere
	case step[0] == '+':
		m.beside[fact] = true
	case !m.beside[fact]:
		return augur.ErrNone
	default:
		delete(m.beside, fact)
	}
	return augur.OK
}

// whole answers the rules and the facts beside them.
func (m *mirror) whole() []rule {
	whole := slices.Clone(m.rules)
	for _, fact := range slices.Sorted(maps.Keys(m.beside)) {
		whole = append(whole, rule{head: pieceOf(strings.TrimSuffix(fact, "."))})
	}
	return whole
}

// step makes one: mostly with a fact of the maker's names and things, now and
// then with one that is too strange, or with one that is in the program.
func (m *maker) step(rules []rule) string {
	fact := m.atom(nil)
	switch m.Intn(12) {
	case 0:
		fact.terms = append(fact.terms, m.pick(m.things))
	case 1:
		fact.terms = fact.terms[:1]
	case 2:
		fact.terms[m.Intn(len(fact.terms))] = m.pick([]string{"zz", "7", "X", "00", ""})
	case 3:
		fact.name = m.pick([]string{"zz", "P", "pp", "n"})
	case 4:
		fact = rules[m.Intn(len(rules))].head
	}
	return m.pick([]string{"+", "+", "-"}) + fact.String() + m.pick([]string{".", ".", ".", ".", ".", ".", ".", ".", "", " ."})
}

// P8 and P9, at many programs: bases and their mirrors do the same steps.
func TestBasesAreAsTheirMirrors(t *testing.T) {
	seen := make(map[augur.Errno]int)
	grown := 0
	for seed := range int64(600) {
		m := newMaker(seed)
		rules := m.rules()
		base, e, _ := augur.Start(textOf(rules))
		if e != augur.OK {
			continue
		}
		twin := &mirror{rules, make(map[string]bool)}
		var done []string
		for range 15 {
			step := m.step(rules)
			done = append(done, step)
			e, want := move(base, step), twin.move(step)
			if e != want {
				t.Fatalf("P8: of %q the last of %q = %d, want %d", textOf(rules), done, e, want)
			}
			seen[e]++
			whole := twin.whole()
			if got, want := base.Model(), written(oracle(whole)); got != want {
				t.Fatalf("P9: of %q behind %q Model() = %q, want %q", textOf(rules), done, got, want)
			}
			if len(whole) > 12 {
				grown++
			}
		}
	}
	for _, e := range []augur.Errno{augur.OK, augur.ErrForm, augur.ErrArity, augur.ErrNone, augur.ErrThere} {
		if seen[e] < 50 {
			t.Errorf("the steps had %d times the error %d", seen[e], e)
		}
	}
	if grown < 50 {
		t.Errorf("with what is beside it the program had but %d times more than 12 clauses", grown)
	}
}

// P9: as Follow tells it, where the program with the facts behind it is one.
func TestModelIsWhatFollowAnswers(t *testing.T) {
	tried := 0
	for seed := range int64(1500) {
		m := newMaker(seed)
		rules := m.rules()
		program := textOf(rules)
		base, e, _ := augur.Start(program)
		if e != augur.OK {
			continue
		}
		for range 4 {
			fact := m.atom(nil).String() + "."
			if base.Insert(fact) == augur.OK {
				program += " " + fact
			}
		}
		want, e, _ := augur.Follow(program)
		if e != augur.OK {
			continue // now too long, or too many clauses
		}
		tried++
		if got := base.Model(); got != want {
			t.Errorf("P9: of %q Model() = %q, want %q", program, got, want)
		}
	}
	if tried < 400 {
		t.Errorf("of the programs made, only %d could be told by Follow", tried)
	}
}

// P2: bases share nothing, be they of one program or of several; nor do they
// with the other calls.
func TestBasesShareNothing(t *testing.T) {
	const program = "n(a). n(b). m(X) :- n(X), !k(X)."
	one, other := started(t, program), started(t, program)
	third := started(t, "k(b). m(X) :- k(X). n(a) :- m(b).")
	moveAll(t, one, "+k(a).")
	testModel(t, other, "+k(a). of another", "m(a). m(b). n(a). n(b).")
	if e := other.Delete("k(a)."); e != augur.ErrNone {
		t.Errorf("P2: Delete of what is beside another = %d", e)
	}
	moveAll(t, third, "+k(a).")
	moveAll(t, other, "+k(a). +k(b). -k(a).")
	moveAll(t, third, "+m(a). -k(a).")
	testModel(t, one, "+k(a).", "k(a). m(b). n(a). n(b).")
	testModel(t, other, "+k(b).", "k(b). m(a). n(a). n(b).")
	testModel(t, third, "+m(a).", "k(b). m(a). m(b). n(a).")
	moveAll(t, one, "-k(a).")
	testModel(t, one, "nothing", "m(a). m(b). n(a). n(b).")
	testModel(t, other, "+k(b).", "k(b). m(a). n(a). n(b).")
	testModel(t, started(t, program), "nothing", "m(a). m(b). n(a). n(b).")
	if got, _, _ := augur.Follow(program); got != told("m(a). m(b). n(a). n(b).") {
		t.Errorf("P2: Follow(%q) = %q, while bases of it have facts beside", program, got)
	}
	if got, _, _ := augur.Ask(program, "k(X)"); got != "" {
		t.Errorf("P2: Ask(%q, ..) = %q, while bases of it have facts beside", program, got)
	}
}

// P2: nor do bases that are used at the same time.
func TestBasesAtTheSameTime(t *testing.T) {
	var workers sync.WaitGroup
	for worker := range 8 {
		workers.Go(func() {
			base, _, _ := augur.Start("n(0). n(1). n(2). n(3). m(X) :- n(X), !k(X).")
			own := string(rune('0' + worker%4))
			rest := strings.ReplaceAll("m(0).\nm(1).\nm(2).\nm(3).\n", "m("+own+").\n", "")
			for range 100 {
				inserted := base.Insert("k(" + own + ").")
				got := base.Model()
				deleted := base.Delete("k(" + own + ").")
				want := "k(" + own + ").\n" + rest + "n(0).\nn(1).\nn(2).\nn(3).\n"
				if inserted != augur.OK || deleted != augur.OK || got != want {
					t.Errorf("P2: Insert = %d, Delete = %d, Model() = %q, want %q", inserted, deleted, got, want)
				}
			}
		})
	}
	workers.Wait()
}

// A base keeps none of the memory that it was handed.
func TestBasesKeepNoArgument(t *testing.T) {
	program, fact := []byte("ab(cd,10). pq(X) :- ab(X,Y)."), []byte("ab(10,cd).")
	base := started(t, unsafe.String(&program[0], len(program)))
	if e := base.Insert(unsafe.String(&fact[0], len(fact))); e != augur.OK {
		t.Errorf("P8: Insert = %d", e)
	}
	clear(program)
	clear(fact)
	testModel(t, base, "the texts are gone", "ab(10,cd). ab(cd,10). pq(10). pq(cd).")
}

// P1: of a fact that is too long only the length is looked at.
func TestLongFactsOfBasesCostNothing(t *testing.T) {
	base := started(t, "p(a).")
	long := strings.Repeat("p(a).", 1_000_000)
	spent := testing.AllocsPerRun(10, func() {
		if started, e, place := augur.Start(long); started != nil || e != augur.ErrLong || place != 0 {
			t.Errorf("P1: Start of %d bytes = %v, %d, %d", len(long), started, e, place)
		}
		if inserted, deleted := base.Insert(long), base.Delete(long); inserted != augur.ErrForm || deleted != augur.ErrForm {
			t.Errorf("P1: of %d bytes Insert = %d, Delete = %d", len(long), inserted, deleted)
		}
	})
	if spent != 0 {
		t.Errorf("P1: the calls with %d bytes took memory %v times", len(long), spent)
	}
}

// P1: none panics, though the base be the one that stands beside an error.
func TestNoBaseDoesNotPanic(t *testing.T) {
	base, _, _ := augur.Start("p(")
	for _, text := range append(hostileTexts(), "p(a).", "p(a,b).") {
		if inserted, deleted := base.Insert(text), base.Delete(text); inserted == augur.OK || deleted == augur.OK {
			t.Errorf("P1: without a base Insert(%q) = %d, Delete = %d", text, inserted, deleted)
		}
	}
	if got := base.Model(); got != "" {
		t.Errorf("P1: without a base Model() = %q", got)
	}
}
