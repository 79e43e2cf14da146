package augur_test

import (
	"regexp"
	"strconv"
	"strings"
	"sync"
	"testing"

	"augur/augur"
)

// rulesOf reads a program, which must be right.
func rulesOf(program string) []rule {
	literals := regexp.MustCompile(`[!a-z]+\([^)]*\)|[^,]+`)
	program = strings.NewReplacer(" ", "", "\n", "").Replace(program)
	var rules []rule
	for _, clause := range strings.Split(strings.TrimSuffix(program, "."), ".") {
		head, body, _ := strings.Cut(clause, ":-")
		r := rule{head: pieceOf(head)}
		for _, literal := range literals.FindAllString(body, -1) {
			r.body = append(r.body, pieceOf(literal))
		}
		rules = append(rules, r)
	}
	return rules
}

func pieceOf(text string) piece {
	if name, terms, found := strings.Cut(text, "("); found {
		bare := strings.TrimPrefix(name, "!")
		return piece{name[:len(name)-len(bare)], bare, strings.Split(strings.TrimSuffix(terms, ")"), ",")}
	}
	at := strings.IndexAny(text, "=#<")
	return piece{sign: text[at : at+1], terms: []string{text[:at], text[at+1:]}}
}

// judge holds reasons against a program.
type judge struct {
	filled [][]rule // by the clauses' numbers
	facts  map[string]bool
}

func newJudge(rules []rule) *judge {
	_, things := collect(rules)
	j := &judge{facts: oracle(rules)}
	for _, r := range rules {
		j.filled = append(j.filled, r.instances(things))
	}
	return j
}

// fault tells what is wrong with a reason for a fact, if anything is.
func (j *judge) fault(fact, reason string) string {
	form := regexp.MustCompile(`\A(\S*)\. (0|[1-9][0-9]*)\n\z`)
	ahead := make(map[string]bool)
	last := ""
	for line := range strings.Lines(reason) {
		parts := form.FindStringSubmatch(line)
		if parts == nil {
			return "no line: " + line
		}
		last = parts[1]
		number, err := strconv.Atoi(parts[2])
		if err != nil || number >= len(j.filled) {
			return "no clause: " + line
		}
		if ahead[last] {
			return "twice: " + line
		}
		if !j.holds(number, last, ahead) {
			return "not by this clause: " + line
		}
		ahead[last] = true
	}
	if last+"." != fact {
		return "the last one is " + last
	}
	return ""
}

// holds tells whether a fact follows by a clause from those ahead.
func (j *judge) holds(number int, fact string, ahead map[string]bool) bool {
next:
	for _, r := range j.filled[number] {
		if r.head.String() != fact {
			continue
		}
		for _, literal := range r.body {
			if !literal.holdsIn(ahead, j.facts) {
				continue next
			}
		}
		return true
	}
	return false
}

func TestTheJudgeFindsFaults(t *testing.T) {
	j := newJudge(rulesOf("p(a). q(X) :- p(X). r(X) :- q(X), !s(X), X < b. s(b). p(b). q(b)."))
	for _, c := range []struct {
		fact, reason string
		right        bool
	}{
		{"p(a).", "p(a). 0\n", true},
		{"r(a).", "p(a). 0\nq(a). 1\nr(a). 2\n", true},
		{"q(b).", "q(b). 5\n", true},
		{"q(b).", "p(b). 4\nq(b). 1\n", true},
		{"p(a).", "", false},
		{"p(a).", "p(a). 0", false},
		{"p(a).", "p(a) 0\n", false},
		{"p(a).", "p(a).  0\n", false},
		{"p(a).", "p(a). 00\n", false},
		{"p(a).", "p(a). -1\n", false},
		{"p(a).", "p(a). 1\n", false},
		{"p(a).", "p(a). 6\n", false},
		{"p(a).", "p(a). 0\np(a). 0\n", false},
		{"p(a).", "p(a). 0\nq(a). 1\n", false},
		{"q(a).", "q(a). 1\n", false},
		{"q(a).", "q(a). 1\np(a). 0\n", false},
		{"r(b).", "p(b). 4\nq(b). 1\nr(b). 2\n", false},
		{"p(c).", "p(c). 0\n", false},
	} {
		if fault := j.fault(c.fact, c.reason); (fault == "") != c.right {
			t.Errorf("of %q the judge tells %q", c.reason, fault)
		}
	}
}

// whyCase is a program, a fact, and the only reason for it, with `/` for
// newlines.
type whyCase struct {
	program, fact, reason string
}

// ring is a program in which facts lean on each other.
const ring = "p(X) :- q(X). q(X) :- r(X). r(X) :- p(X). q(a)."

// P7: where there is but one reason without what it does not need, that one.
func TestWhyOfOneReason(t *testing.T) {
	for _, c := range []whyCase{
		{"p(a). q(X) :- p(X).", "q(a).", "p(a). 0/q(a). 1/"},
		// A clause.
		{"p(a). q(X) :- p(X).", "p(a).", "p(a). 0/"},
		{"q(X) :- p(X). p(b). p(a).", "p(a).", "p(a). 2/"},
		{" p ( a ,\n10 ) .", "p(a,10).", "p(a,10). 0/"},
		{"abcd(wxyz,999).", "abcd(wxyz,999).", "abcd(wxyz,999). 0/"},
		{"p(0).", "p(0).", "p(0). 0/"},
		{strings.Repeat("p(a).", 11) + "p(b).", "p(b).", "p(b). 11/"},
		// What a clause needs stands behind it in the program.
		{"c(X) :- b(X). b(X) :- a(X). a(a). a(b).", "c(b).", "a(b). 3/b(b). 1/c(b). 0/"},
		// A ring.
		{ring, "q(a).", "q(a). 3/"},
		{ring, "p(a).", "q(a). 3/p(a). 0/"},
		{ring, "r(a).", "q(a). 3/p(a). 0/r(a). 2/"},
		{"p(X) :- p(X). p(a).", "p(a).", "p(a). 1/"},
		{"p(X,Y) :- p(Y,X). p(a,b).", "p(b,a).", "p(a,b). 1/p(b,a). 0/"},
		{"p(X,Y) :- p(Y,X). p(a,b).", "p(a,b).", "p(a,b). 1/"},
		// A `!` needs no line.
		{"p(a) :- !q(a). q(b) :- r(b).", "p(a).", "p(a). 0/"},
		{"p(X) :- n(X), !q(X). n(a). q(b).", "p(a).", "n(a). 1/p(a). 0/"},
		{"a(x) :- !b(x). b(x) :- !c(x). c(x) :- !d(x).", "a(x).", "a(x). 0/"},
		{"p(a) :- !q(a). p(a) :- r(a). r(a). q(a).", "p(a).", "r(a). 2/p(a). 1/"},
		// The other kinds of literals need none either.
		{"p(a) :- a = a, a # b, a < b.", "p(a).", "p(a). 0/"},
		{"p(X) :- n(X), X < 10, X # 2. n(1). n(2). n(10).", "p(1).", "n(1). 1/p(1). 0/"},
		// One fact for two literals.
		{"p(X,Y) :- n(X), n(Y). n(a).", "p(a,a).", "n(a). 1/p(a,a). 0/"},
		// What does not help is not told.
		{"p(a) :- q(b). p(a) :- q(c). q(c). q(d).", "p(a).", "q(c). 2/p(a). 1/"},
	} {
		got, e, place := augur.Why(c.program, c.fact)
		if want := strings.ReplaceAll(c.reason, "/", "\n"); got != want || e != augur.OK || place != 0 {
			t.Errorf("P7: Why(%q, %q) = %q, %d, %d, want %q", c.program, c.fact, got, e, place, want)
		}
	}
}

// testReasons holds the reasons for all that follows against the judge, and
// tells how many there are.
func testReasons(t *testing.T, program string, rules []rule) int {
	t.Helper()
	j := newJudge(rules)
	for fact := range j.facts {
		fact += "."
		got, e, place := augur.Why(program, fact)
		fault := j.fault(fact, got)
		if fault != "" || e != augur.OK || place != 0 {
			t.Errorf("P7: Why(%q, %q) = %q, %d, %d: %s", program, fact, got, e, place, fault)
		}
	}
	return len(j.facts)
}

// P7: where there are several reasons, one of them.
func TestWhyOfSeveralReasons(t *testing.T) {
	for _, program := range []string{
		documentProgram,
		steps,
		ring,
		"p(a). p(a).",
		"p(a) :- q(a). p(a) :- r(a). p(a). q(a). r(a).",
		"p(X) :- q(X). p(X) :- r(X). q(X) :- p(X). r(X) :- p(X). q(a). r(a). q(b). r(c).",
		"e(a,b). e(b,c). e(c,a). e(1,a). p(X,Y) :- e(X,Y). p(X,Z) :- e(X,Y), p(Y,Z).",
		"p(1,2). p(2,3). p(3,4). p(4,5). p(5,1). p(X,Z) :- p(X,Y), p(Y,Z).",
		"n(1). n(2). n(10). q(X) :- n(X), n(Y), Y < X. r(X) :- n(X), !q(X). s(Y) :- r(X), n(Y), X # Y.",
		"a(x) :- !b(x). b(x) :- !c(x). c(x) :- !d(x). d(x) :- !e(x). e(x) :- !f(x).",
		"a(0,9). a(10,99). a(x,xy). b(X,X) :- a(X,Y). b(Y,Y) :- a(X,Y). " +
			"a(X,Y) :- b(X,X), b(Y,Y), f(Z,W). b(X,Y) :- a(X,Y). c(X,Y) :- a(X,Z), b(W,Y). " +
			"f(X,Y) :- b(X,X), b(Y,Y).",
	} {
		if testReasons(t, program, rulesOf(program)) == 0 {
			t.Errorf("nothing follows from %q", program)
		}
	}
}

// P7, at many programs: of all facts that could be, those that follow have a
// right reason, and the others have none.
func TestWhyAtManyPrograms(t *testing.T) {
	reasons, others := 0, 0
	for seed := range int64(2000) {
		rules := newMaker(seed).rules()
		program := textOf(rules)
		if e, _ := augur.Check(program); e != augur.OK {
			continue
		}
		reasons += testReasons(t, program, rules)
		told := oracle(rules)
		for _, r := range ground(rules) {
			fact := r.head.String()
			if told[fact] {
				continue
			}
			told[fact] = true
			others++
			if got, e, place := augur.Why(program, fact+"."); got != "" || e != augur.ErrNone || place != 0 {
				t.Errorf("P7: Why(%q, %q) = %q, %d, %d, want ErrNone", program, fact+".", got, e, place)
			}
		}
	}
	if reasons < 5000 || others < 2000 {
		t.Errorf("there were %d facts that follow, and %d others", reasons, others)
	}
}

func TestWhyOfWhatDoesNotFollow(t *testing.T) {
	for _, c := range []struct{ program, fact string }{
		{"", "p(a)."},
		{"p(a). q(X) :- p(X).", "p(b)."},
		{"p(a). q(X) :- p(X), X # a.", "q(a)."},
		{"p(a). q(X) :- p(X).", "q(zz)."},
		{"p(a). q(X) :- p(X).", "q(7)."},
		{"p(a). q(X) :- p(X).", "zz(a)."},
		{"p(a). q(X) :- p(X).", "zz(zz,7)."},
		{"p(a). q(X) :- p(X).", "p(a,a)."},
		{"p(a,b). q(X) :- p(X,Y).", "p(a)."},
		{"p(a,b).", "p(b,a)."},
		{"p(a) :- q(a).", "p(a)."},
		{"p(a) :- q(a).", "q(a)."},
		{"p(a) :- p(a).", "p(a)."},
		{"p(X) :- q(X). q(X) :- p(X).", "p(a)."},
		{"p(a) :- !q(a). q(a).", "p(a)."},
		{"p(10). p(1).", "p(0)."},
		{"abcd(wxyz,99).", "abcd(wxyz,999)."},
	} {
		if got, e, place := augur.Why(c.program, c.fact); got != "" || e != augur.ErrNone || place != 0 {
			t.Errorf("P7: Why(%q, %q) = %q, %d, %d, want ErrNone", c.program, c.fact, got, e, place)
		}
	}
}

// noFacts are texts that are no facts as they are written.
func noFacts() []string {
	texts := []string{
		"", " ", "\n", ".", "p", "p.", "p(", "p(a", "p(a)", "p().", "(a).", "p(a,).", "p(,a).", "p(a b).",
		// Something too much.
		" p(a).", "p(a). ", "p (a).", "p( a).", "p(a ).", "p(a) .", "p(a,\nb).", "p(a, b).", "p(a ,b).", "\np(a).", "p(a).\n",
		"p(a)..", "p(a).p(a).", "p(a). q(a).", "p(a).q", "p(a).\x00", "p(a)\xff.", "p(a),p(a).", "!p(a).",
		// Clauses that are no facts, questions.
		"p(X).", "p(a,X).", "p(X,a).", "q(X):-p(X).", "p(a):-q(a).", "p(a):-a=a.", "p(a) :- q(a).", "a=a.", "a=a", "p(X)",
		// Rows that are none, or too long.
		"p(00).", "p(01).", "p(007).", "p(a,00).", "p(1000).", "p(abcde).", "abcde(a).", "P(a).", "1(a).", "p1(a).", "p(a1).",
		"p(-1).", "p(é).", "é(a).", "p(A1).", "p(p(a)).", "p(_).", "p[a].", "p(a);",
		// Too many arguments.
		"p(a,b,c).", "p(a,a,a).", "p(a,b,c,d).", "p(X,Y,Z).", "p(" + strings.Repeat("a,", 147) + "ab).",
		// Too long.
		"p(a)." + strings.Repeat(" ", 296), "p(" + strings.Repeat("a", 300) + ").", strings.Repeat("p(a).", 61),
	}
	fact := regexp.MustCompile(`\A[a-z]\(([a-z]|[0-9])\)\.\z`)
	for _, text := range hostileTexts() {
		if !fact.MatchString(text) {
			texts = append(texts, text)
		}
	}
	return texts
}

// P7: no fact as it is written, whether it would follow or not.
func TestWhyOfNoFact(t *testing.T) {
	for _, program := range []string{"p(a). p(X) :- q(X). q(0).", "p(a,b). r(a).", ""} {
		for _, text := range noFacts() {
			if got, e, place := augur.Why(program, text); got != "" || e != augur.ErrForm || place != 0 {
				t.Errorf("P7: Why(%q, %.40q) = %q, %d, %d, want ErrForm, 0", program, text, got, e, place)
			}
		}
	}
}

// P7: the error of Check, with its place, whatever the fact is.
func TestWhyTellsTheErrorsOfCheck(t *testing.T) {
	programs := append(hostileTexts(), strings.Repeat("p(a).", 13), strings.Repeat(" ", 301))
	for _, c := range checkCases {
		programs = append(programs, c.program)
	}
	seen := make(map[augur.Errno]int)
	for _, program := range programs {
		wantE, wantPlace := augur.Check(program)
		seen[wantE]++
		for _, fact := range []string{"p(a).", "zz(zz).", "p(a,b,c).", "p(X).", "", strings.Repeat(" ", 301)} {
			got, e, place := augur.Why(program, fact)
			if wantE != augur.OK && (got != "" || e != wantE || place != wantPlace) {
				t.Errorf("P7: Why(%q, %.20q) = %q, %d, %d, want %d, %d", program, fact, got, e, place, wantE, wantPlace)
			}
		}
	}
	for e := augur.OK; e <= augur.ErrStrata; e++ {
		if seen[e] == 0 {
			t.Errorf("no program has the error %d", e)
		}
	}
}

// P2: what Why answers depends on its arguments alone.
func TestWhyDependsOnItsArgumentsAlone(t *testing.T) {
	facts := []string{"p(a,c).", "r(a,c).", "e(a,b).", "p(c,a).", "p(a).", "", "q(a)."}
	programs := []string{documentProgram, ring, "", "p(X).", "p(a,c). e(a,b) :- p(a,c)."}
	type answer struct {
		text  string
		e     augur.Errno
		place int
	}
	why := func(i int) answer {
		text, e, place := augur.Why(programs[i%len(programs)], facts[i/len(programs)])
		return answer{text, e, place}
	}
	var first []answer
	for i := range len(programs) * len(facts) {
		first = append(first, why(i))
	}
	var workers sync.WaitGroup
	for worker := range 8 {
		workers.Go(func() {
			for step := range 5 * len(first) {
				i := (step*(2*worker+1) + worker) % len(first)
				if again := why(i); again != first[i] {
					t.Errorf("P2: Why number %d = %v, and at first %v", i, again, first[i])
				}
			}
		})
	}
	workers.Wait()
}
