package augur_test

import (
	"slices"
	"sort"
	"strings"
	"sync"
	"testing"

	"augur/augur"
)

// askCase is a question and its lines, with `/` behind each.
type askCase struct {
	question, lines string
}

func testAsk(t *testing.T, program string, cases []askCase) {
	t.Helper()
	for _, c := range cases {
		got, e, place := augur.Ask(program, c.question)
		if want := strings.ReplaceAll(c.lines, "/", "\n"); got != want || e != augur.OK || place != 0 {
			t.Errorf("P6: Ask(%q, %q) = %q, %d, %d, want %q", program, c.question, got, e, place, want)
		}
	}
}

func TestAskOfTheDocument(t *testing.T) {
	testAsk(t, documentProgram, []askCase{
		{"p(a,Y), Y # b", "Y=c/"},
		{"e(a,c)", ""},
		{"!e(a,c)", "/"},
		{"r(X,Y)", "X=a Y=c/"},
	})
}

// steps has NUMBERs and words, a relation with `!`, and one without facts.
const steps = "s(1,2). s(2,10). s(2,a). s(10,a). n(X) :- s(X,Y). n(Y) :- s(X,Y). " +
	"z(X) :- n(X), !b(X). b(X) :- s(X,Y). o(X) :- s(X,X)."

// P6: each kind of literal, by itself and beside others.
func TestAskOfEachKindOfLiteral(t *testing.T) {
	testAsk(t, steps, []askCase{
		{"s(2,X)", "X=10/X=a/"},
		{"s(X,a)", "X=2/X=10/"},
		{"z(X)", "X=a/"},
		{"o(X)", ""},
		{"n(X), !b(X)", "X=a/"},
		{"!s(X,a), n(X)", "X=1/X=a/"},
		{"n(X), !o(X)", "X=1/X=2/X=10/X=a/"},
		{"n(X), !s(1,X), !s(X,a)", "X=1/X=a/"},
		{"n(X), X = 2", "X=2/"},
		{"2 = X, n(X)", "X=2/"},
		{"n(X), n(Y), X = Y", "X=1 Y=1/X=2 Y=2/X=10 Y=10/X=a Y=a/"},
		{"n(X), X # 2", "X=1/X=10/X=a/"},
		{"2 # X, n(X), X # a", "X=1/X=10/"},
		{"n(X), X < 10", "X=1/X=2/"},
		{"n(X), 2 < X", "X=10/X=a/"},
		{"n(X), 1 < X, X < a", "X=2/X=10/"},
		{"s(X,Y), s(Y,Z)", "X=1 Y=2 Z=10/X=1 Y=2 Z=a/X=2 Y=10 Z=a/"},
		{"s(X,Y), s(Y,Z), !s(X,Z)", "X=1 Y=2 Z=10/X=1 Y=2 Z=a/"},
		{"s(X,Y), a < 1", ""},
		{"s(X,Y), 1 < a, Y = a", "X=2 Y=a/X=10 Y=a/"},
	})
}

// P6: without VARIABLEs an empty line, if the question holds.
func TestAskWithoutVariables(t *testing.T) {
	testAsk(t, steps, []askCase{
		{"s(1,2)", "/"}, {"s(2,1)", ""}, {"s(1,2), s(2,10)", "/"}, {"s(1,2), s(2,2)", ""},
		{"!s(2,1)", "/"}, {"!s(1,2)", ""}, {"s(1,2), !s(1,2)", ""},
		{"a = a", "/"}, {"a = b", ""}, {"10 = 10", "/"}, {"1 = 10", ""},
		{"a # b", "/"}, {"a # a", ""},
		{"a < b", "/"}, {"b < a", ""}, {"a < a", ""}, {"9 < 10", "/"}, {"10 < 9", ""}, {"999 < a", "/"}, {"a < 0", ""},
		{"n(1), n(2), n(10)", "/"}, {"n(1), n(2), n(3)", ""},
	})
}

// P6: things and relations need not be the program's.
func TestAskOfForeignThingsAndRelations(t *testing.T) {
	for _, program := range []string{steps, "p(a).", ""} {
		testAsk(t, program, []askCase{
			{"zz(X)", ""}, {"zz(X,Y)", ""}, {"zz(a)", ""}, {"!zz(a)", "/"}, {"!zz(a,99)", "/"},
			{"zz = zz", "/"}, {"zz # zz", ""}, {"7 < zz", "/"}, {"zz < 7", ""},
			// Of a foreign relation no number of arguments is another one.
			{"zz(a), zz(a,b)", ""}, {"!zz(a), !zz(a,b)", "/"},
			// More names and things than a program may have.
			{"!aa(g,h), !ab(i,j), !ac(k,l)", "/"},
		})
	}
	testAsk(t, steps, []askCase{
		{"s(zz,X)", ""}, {"s(X,7)", ""}, {"s(zz,7)", ""}, {"!s(zz,7)", "/"},
		{"n(X), X # zz", "X=1/X=2/X=10/X=a/"}, {"n(X), X = zz", ""}, {"n(X), X < 7", "X=1/X=2/"}, {"n(X), aa < X", ""},
		{"n(X), !s(X,zz), 2 < X", "X=10/X=a/"}, {"n(X), zz(X)", ""}, {"z(X), !zz(X)", "X=a/"},
	})
}

// P6: the same VARIABLE twice is the same thing twice, and is told once.
func TestAskWithAVariableTwice(t *testing.T) {
	testAsk(t, "m(1,1). m(1,a). m(a,1). m(b,b). n(a). n(b).", []askCase{
		{"m(X,X)", "X=1/X=b/"},
		{"m(X,X), n(X)", "X=b/"},
		{"m(X,Y), m(Y,X)", "X=1 Y=1/X=1 Y=a/X=a Y=1/X=b Y=b/"},
		{"m(X,Y), m(Y,X), X < Y", "X=1 Y=a/"},
		{"n(X), !m(X,X)", "X=a/"},
		{"n(X), X = X", "X=a/X=b/"},
		{"n(X), X # X", ""},
		{"n(X), X < X", ""},
		{"n(X), n(X), n(X)", "X=a/X=b/"},
	})
}

// P6: VARIABLEs in the order in which they come in the question, also in a
// literal that binds none of them; lines by their first things, then by their
// second ones, and so on.
func TestAskTellsInOrder(t *testing.T) {
	testAsk(t, "s(b,1). s(a,20). s(a,3). s(100,b). s(3,a).", []askCase{
		{"s(X,Y)", "X=3 Y=a/X=100 Y=b/X=a Y=3/X=a Y=20/X=b Y=1/"},
		{"s(Y,X)", "Y=3 X=a/Y=100 X=b/Y=a X=3/Y=a X=20/Y=b X=1/"},
		{"s(B,A), A # B", "B=3 A=a/B=100 A=b/B=a A=3/B=a A=20/B=b A=1/"},
		{"A # B, s(B,A)", "A=1 B=b/A=3 B=a/A=20 B=a/A=a B=3/A=b B=100/"},
		{"Y < Z, s(Z,Y)", "Y=1 Z=b/Y=3 Z=a/Y=20 Z=a/"},
		{"!s(Y,X), s(X,Y)", "Y=1 X=b/Y=20 X=a/Y=b X=100/"},
		{"s(X,Y), s(Y,Z)", "X=3 Y=a Z=3/X=3 Y=a Z=20/X=100 Y=b Z=1/X=a Y=3 Z=a/"},
		{"s(Y,Z), s(X,Y)", "Y=3 Z=a X=a/Y=a Z=3 X=3/Y=a Z=20 X=3/Y=b Z=1 X=100/"},
		{"s(X,b), s(a,Y)", "X=100 Y=3/X=100 Y=20/"},
	})
	testAsk(t, "n(b). n(1).", []askCase{
		{"n(Z), n(A), n(M)", "Z=1 A=1 M=1/Z=1 A=1 M=b/Z=1 A=b M=1/Z=1 A=b M=b/" +
			"Z=b A=1 M=1/Z=b A=1 M=b/Z=b A=b M=1/Z=b A=b M=b/"},
	})
}

func TestAskPassesOverBlanks(t *testing.T) {
	testAsk(t, steps, []askCase{
		{" \ns ( 1\n, X ) ", "X=2/"},
		{"n(X),!s(X,a),X<a", "X=1/"},
		{"\n! s\n(2,1)\n,\n1\n<\n2\n", "/"},
	})
}

// questionCase is a question of the program steps, and what its error is.
type questionCase struct {
	question string
	e        augur.Errno
	place    int
}

func questionCases() []questionCase {
	blanks := func(n int) string { return strings.Repeat(" ", n) }
	return []questionCase{
		// ErrLong, first of all.
		{blanks(294) + "s(1,2)", augur.OK, 0},
		{blanks(295) + "s(1,2)", augur.ErrLong, 0},
		{blanks(300), augur.ErrForm, 300},
		{blanks(301), augur.ErrLong, 0},
		{strings.Repeat("é", 150), augur.ErrForm, 0},
		{strings.Repeat("é", 151), augur.ErrLong, 0},
		{"s(1), X = a, a = a, a = a," + blanks(280), augur.ErrLong, 0},

		// ErrForm: no body, or more than one.
		{"", augur.ErrForm, 0},
		{" \n", augur.ErrForm, 2},
		{"s(1,2).", augur.ErrForm, 6},
		{"s(1,2) .", augur.ErrForm, 7},
		{"s(1,2) n(1)", augur.ErrForm, 7},
		{"s(1,2) :- n(1)", augur.ErrForm, 7},
		{"s(1,2) : n(1)", augur.ErrForm, 7},
		{":- s(1,2)", augur.ErrForm, 0},
		{"s(1,2),", augur.ErrForm, 7},
		{"s(1,2), ", augur.ErrForm, 8},
		{",s(1,2)", augur.ErrForm, 0},
		{"s(1,2),,n(1)", augur.ErrForm, 7},
		{"s", augur.ErrForm, 1},
		{"s(1", augur.ErrForm, 3},
		{"s()", augur.ErrForm, 2},
		{"S(1,2)", augur.ErrForm, 1},
		{"X", augur.ErrForm, 1},
		{"X = ", augur.ErrForm, 4},
		{"X > a", augur.ErrForm, 2},
		{"!", augur.ErrForm, 1},
		{"!!s(1,2)", augur.ErrForm, 1},
		{"!a = b", augur.ErrForm, 3},
		{"s(1,2) = a", augur.ErrForm, 7},
		{"abcd = 999", augur.OK, 0},
		{"a = abcde", augur.ErrForm, 4},
		{"a = 1000", augur.ErrForm, 4},
		{"s(01,2)", augur.ErrForm, 2},
		{"abcd(a)", augur.OK, 0},
		{"abcde(a)", augur.ErrForm, 0},
		{"s(1,\t2)", augur.ErrForm, 4},
		{"s(é,2)", augur.ErrForm, 2},
		{"s(1,2)\x00", augur.ErrForm, 6},

		// ErrMany, which has no place.
		{"s(1,2), s(1,2), s(1,2)", augur.OK, 0},
		{"s(1,2), s(1,2), s(1,2), s(1,2)", augur.ErrMany, 0},
		{" \n a = a, !n(1), 1 < 2, 1 # 2", augur.ErrMany, 0},

		// ErrArity, of heads' and of bodies' relations.
		{"n(1,2)", augur.ErrArity, 0},
		{" s(1)", augur.ErrArity, 1},
		{"s(1,2,3)", augur.ErrArity, 0},
		{"!s(1)", augur.ErrArity, 1},
		{"! s(1)", augur.ErrArity, 2},
		{"n(X), !n(X,X)", augur.ErrArity, 7},
		{"zz(a,b)", augur.OK, 0},
		{"zz(a,b,c)", augur.ErrArity, 0},
		{"!zz(a,b,c,d)", augur.ErrArity, 1},
		{"n(X), zz(a,b,c), s(X)", augur.ErrArity, 6},
		{"n(X), s(X), zz(a,b,c)", augur.ErrArity, 6},
		{"zz(a), n(1), zz(a,b)", augur.OK, 0},

		// ErrUnsafe, at the literal with its `!`.
		{"X = a", augur.ErrUnsafe, 0},
		{"a # X", augur.ErrUnsafe, 0},
		{" X < X", augur.ErrUnsafe, 1},
		{"!n(X)", augur.ErrUnsafe, 0},
		{"n(X), ! s(X,Y)", augur.ErrUnsafe, 6},
		{"n(X), X = Y", augur.ErrUnsafe, 6},
		{"n(X), a = a, !zz(Y)", augur.ErrUnsafe, 13},
		{"n(X), Z = X, !zz(Y)", augur.ErrUnsafe, 6},
		{"X = Y, n(Y), n(X)", augur.OK, 0},
		{"!s(X,Y), n(Y), n(X)", augur.OK, 0},
		{"!zz(X), zz(X)", augur.OK, 0},

		// Several: the one named first.
		{"s(1), X = a, a = a, a = a.", augur.ErrForm, 25},
		{"s(1), X = a, a = a, a = a", augur.ErrMany, 0},
		{"s(1,2,3), X = a, a = a, a = a", augur.ErrMany, 0},
		{"X = a, s(1)", augur.ErrArity, 7},
		{"X = a, zz(Y,Y,Y)", augur.ErrArity, 7},
		{"!s(X), !s(1,2,3)", augur.ErrArity, 1},
	}
}

func TestAskTellsTheErrorsOfTheQuestion(t *testing.T) {
	for _, c := range questionCases() {
		got, e, place := augur.Ask(steps, c.question)
		if e != c.e || place != c.place || e != augur.OK && got != "" {
			t.Errorf("P6: Ask(.., %.40q) = %q, %d, %d, want %d, %d", c.question, got, e, place, c.e, c.place)
		}
	}
}

// P6: a relation has the number of arguments that it has in the program, also
// where it has no clause.
func TestAskTakesArityFromTheWholeProgram(t *testing.T) {
	for _, program := range []string{"q(a).", "p(a) :- q(a).", "p(a) :- !q(a).", "p(a). r(a) :- p(a), a = a, q(a)."} {
		if got, e, place := augur.Ask(program, "a = a, q(a,b)"); got != "" || e != augur.ErrArity || place != 7 {
			t.Errorf("P6: Ask(%q, ..) = %q, %d, %d", program, got, e, place)
		}
	}
	if got, e, place := augur.Ask("p(q) :- q = q.", "!q(a,b)"); got != "\n" || e != augur.OK || place != 0 {
		t.Errorf("P6: a thing is no relation: %q, %d, %d", got, e, place)
	}
}

// P6: the error of Check, with its place, whatever the question is.
func TestAskTellsTheErrorsOfCheck(t *testing.T) {
	programs := append(hostileTexts(), strings.Repeat("p(a).", 13), strings.Repeat(" ", 301))
	for _, c := range checkCases {
		programs = append(programs, c.program)
	}
	questions := []string{
		"a = a", strings.Repeat(" ", 301), "", "p(", "a = a, a = a, a = a, a = a", "p(a,b,c)", "X = a",
	}
	seen := make(map[augur.Errno]int)
	for _, program := range programs {
		wantE, wantPlace := augur.Check(program)
		seen[wantE]++
		for _, question := range questions {
			got, e, place := augur.Ask(program, question)
			if wantE != augur.OK && (got != "" || e != wantE || place != wantPlace) {
				t.Errorf("P6: Ask(%q, %.20q) = %q, %d, %d, want %d, %d", program, question, got, e, place, wantE, wantPlace)
			}
			if wantE == augur.OK && (question == "a = a") != (e == augur.OK) {
				t.Errorf("P6: Ask(%q, %.20q) = %q, %d, %d", program, question, got, e, place)
			}
		}
	}
	for e := augur.OK; e <= augur.ErrStrata; e++ {
		if seen[e] == 0 {
			t.Errorf("no program has the error %d", e)
		}
	}
}

// P6: as many answers as any question has.
func TestAskWithSixVariables(t *testing.T) {
	program := "n(1). n(2). n(10). n(a). n(b). n(c). p(X,Y) :- n(X), n(Y)."
	things := []string{"1", "2", "10", "a", "b", "c"}
	var want strings.Builder
	forAll([]string{"U", "V", "W", "X", "Y", "Z"}, things, func(values map[string]string) {
		want.WriteString("U=" + values["U"] + " V=" + values["V"] + " W=" + values["W"] +
			" X=" + values["X"] + " Y=" + values["Y"] + " Z=" + values["Z"] + "\n")
	})
	if got, e, place := augur.Ask(program, "p(U,V), p(W,X), p(Y,Z)"); got != want.String() || e != augur.OK || place != 0 {
		t.Errorf("P6: Ask(%q, ..) = %d bytes, %d, %d", program, len(got), e, place)
	}
}

// answersOf tells what Ask does, by trying all things of the program.
func answersOf(rules []rule, question []piece) string {
	facts := oracle(rules)
	_, things := collect(rules)
	sort.Slice(things, func(i, j int) bool { return isAhead(things[i], things[j]) })
	variables, _ := collect([]rule{{body: question}})
	var text strings.Builder
	forAll(variables[0], things, func(values map[string]string) {
		for _, literal := range question {
			if !literal.put(values).holdsIn(facts, facts) {
				return
			}
		}
		var line []string
		for _, variable := range variables[0] {
			line = append(line, variable+"="+values[variable])
		}
		text.WriteString(strings.Join(line, " ") + "\n")
	})
	return text.String()
}

// question makes one, now and then of a foreign relation or thing.
func (m *maker) question() []piece {
	names, things := m.names, m.things
	defer func() { m.names, m.things = names, things }()
	m.names = append(slices.Clone(names), "o")
	m.things = append(slices.Clone(things), "7", "zz")
	var body []piece
	for len(body) == 0 {
		body = m.rule(m.Intn(4)).body
	}
	if m.Intn(2) == 0 {
		return body
	}
	values := map[string]string{"X": m.pick(m.things), "Y": "Y", "Z": "Z", "A": m.pick(m.things)}
	for i := range body {
		body[i] = body[i].put(values)
	}
	return body
}

// P6, at many questions.
func TestAskIsWhatTheOracleTells(t *testing.T) {
	tried, held, without := 0, 0, 0
	for seed := range int64(4000) {
		m := newMaker(seed)
		rules := m.rules()
		program := textOf(rules)
		if e, _ := augur.Check(program); e != augur.OK {
			continue
		}
		for range 3 {
			body := m.question()
			question := strings.TrimSuffix(rule{head: piece{name: "h"}, body: body}.String(), ".")
			question = strings.TrimPrefix(question, "h() :- ")
			want := answersOf(rules, body)
			got, e, place := augur.Ask(program, question)
			if got != want || e != augur.OK || place != 0 {
				t.Errorf("P6: Ask(%q, %q) = %q, %d, %d, want %q", program, question, got, e, place, want)
			}
			tried++
			if want != "" {
				held++
			}
			if want == "\n" {
				without++
			}
		}
	}
	if tried < 5000 || held < 1000 || without < 200 {
		t.Errorf("of %d questions %d hold, %d of them without VARIABLEs", tried, held, without)
	}
}

// P2: what Ask answers depends on its arguments alone.
func TestAskDependsOnItsArgumentsAlone(t *testing.T) {
	questions := []string{"s(X,Y)", "n(X), !b(X)", "X = a", "s(1)", "", "s(1,2)", "zz(X)", "s(Y,X), X < Y"}
	programs := []string{steps, "s(b,a).", "", "s(X,a)."}
	type answer struct {
		text  string
		e     augur.Errno
		place int
	}
	ask := func(i int) answer {
		text, e, place := augur.Ask(programs[i%len(programs)], questions[i/len(programs)])
		return answer{text, e, place}
	}
	var first []answer
	for i := range len(programs) * len(questions) {
		first = append(first, ask(i))
	}
	var workers sync.WaitGroup
	for worker := range 8 {
		workers.Go(func() {
			for step := range 5 * len(first) {
				i := (step*(2*worker+1) + worker) % len(first)
				if again := ask(i); again != first[i] {
					t.Errorf("P2: Ask number %d = %v, and at first %v", i, again, first[i])
				}
			}
		})
	}
	workers.Wait()
}
