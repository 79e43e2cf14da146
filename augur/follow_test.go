package augur_test

import (
	"strings"
	"sync"
	"testing"

	"augur/augur"
)

// followCase is a program, and the facts that follow from it, in their order,
// with blanks between.
type followCase struct {
	program, facts string
}

// told answers what Follow tells of facts with blanks between.
func told(facts string) string {
	return strings.Join(append(strings.Fields(facts), ""), "\n")
}

func testFollow(t *testing.T, promise string, cases []followCase) {
	t.Helper()
	for _, c := range cases {
		got, e, place := augur.Follow(c.program)
		if want := told(c.facts); got != want || e != augur.OK || place != 0 {
			t.Errorf("%s: Follow(%q) = %q, %d, %d, want %q", promise, c.program, got, e, place, want)
		}
	}
}

const (
	documentProgram = "e(a,b). e(b,c). p(X,Y) :- e(X,Y). p(X,Z) :- e(X,Y), p(Y,Z). r(X,Y) :- p(X,Y), !e(X,Y)."
	someFacts       = "n(1). n(a). m(1,a). m(a,a). " // for programs to go on from
	someTold        = "m(1,a). m(a,a). n(1). n(a). "
)

func TestFollowOfTheDocument(t *testing.T) {
	testFollow(t, "P5", []followCase{
		{"p(a). q(X) :- p(X).", "p(a). q(a)."},
		{documentProgram, "e(a,b). e(b,c). p(a,b). p(a,c). p(b,c). r(a,c)."},
	})
}

// P4: an atom holds, if it is one of the facts.
func TestBodiesWithAtoms(t *testing.T) {
	testFollow(t, "P4", []followCase{
		{someFacts + "z(X) :- n(X).", someTold + "z(1). z(a)."},
		{someFacts + "z(b) :- n(a).", someTold + "z(b)."},
		{someFacts + "z(b) :- n(b).", someTold},
		{someFacts + "z(b) :- n(X).", someTold + "z(b)."},
		{someFacts + "z(X) :- m(X,a).", someTold + "z(1). z(a)."},
		{someFacts + "z(X) :- m(1,X).", someTold + "z(a)."},
		{someFacts + "z(X) :- m(X,1).", someTold},
		{someFacts + "z(X) :- m(X,Y).", someTold + "z(1). z(a)."},
		{someFacts + "z(Y) :- m(X,Y).", someTold + "z(a)."},
		{someFacts + "z(Y,X) :- m(X,Y).", someTold + "z(a,1). z(a,a)."},
		{someFacts + "z(X,b) :- m(X,Y), n(Y).", someTold + "z(1,b). z(a,b)."},
		{someFacts + "z(X,Y) :- n(X), n(Y).", someTold + "z(1,1). z(1,a). z(a,1). z(a,a)."},
		{someFacts + "z(X) :- m(X,Y), m(Y,X).", someTold + "z(a)."},
		{someFacts + "z(X,Z) :- m(X,Y), m(Y,Z), n(Z).", someTold + "z(1,a). z(a,a)."},
		{someFacts + "z(X) :- n(X), o(X).", someTold},
		{someFacts + "z(X) :- n(X), n(2).", someTold},
		{someFacts + "z(Z,A) :- n(Z), n(A), m(Z,A).", someTold + "z(1,a). z(a,a)."},
	})
}

// P4: the same VARIABLE twice is the same thing twice.
func TestBodiesWithAVariableTwice(t *testing.T) {
	testFollow(t, "P4", []followCase{
		{someFacts + "z(X) :- m(X,X).", someTold + "z(a)."},
		{someFacts + "z(X,X) :- n(X).", someTold + "z(1,1). z(a,a)."},
		{someFacts + "z(X,X) :- m(X,X), n(X).", someTold + "z(a,a)."},
		{someFacts + "z(X) :- n(X), !m(X,X).", someTold + "z(1)."},
		{someFacts + "z(b) :- m(X,X), m(1,X).", someTold + "z(b)."},
		{"m(a,b). z(X) :- m(X,X).", "m(a,b)."},
		{"m(a,b). m(b,a). z(a) :- m(X,X).", "m(a,b). m(b,a)."},
		{"n(a). n(b). z(X) :- n(X), X # X.", "n(a). n(b)."},
		{"n(a). n(b). z(X) :- n(X), X = X.", "n(a). n(b). z(a). z(b)."},
		{"n(a). n(b). z(X) :- n(X), X < X.", "n(a). n(b)."},
	})
}

// P4: an atom with `!` holds, if it is none of the facts.
func TestBodiesWithAbsence(t *testing.T) {
	testFollow(t, "P4", []followCase{
		{someFacts + "z(b) :- !n(b).", someTold + "z(b)."},
		{someFacts + "z(b) :- !n(a).", someTold},
		{someFacts + "z(b) :- !o(a).", someTold + "z(b)."},
		{someFacts + "z(X) :- n(X), !m(1,X).", someTold + "z(1)."},
		{someFacts + "z(X) :- !m(X,1), n(X).", someTold + "z(1). z(a)."},
		{someFacts + "z(X) :- !m(X,a), n(X).", someTold},
		{someFacts + "z(X,Y) :- n(X), n(Y), !m(X,Y).", someTold + "z(1,1). z(a,1)."},
		{someFacts + "z(X,Y) :- m(X,Y), !m(Y,X).", someTold + "z(1,a)."},
		{someFacts + "z(X) :- m(X,Y), !m(Y,Y).", someTold},
		{someFacts + "z(a) :- n(X), !m(X,a).", someTold},
		{someFacts + "z(a) :- n(X), !m(X,1).", someTold + "z(a)."},
		{someFacts + "z(X) :- n(X), !o(X), !m(X,X).", someTold + "z(1)."},
	})
}

// P4: `=`, `#` and `<`, with VARIABLEs and with things on either side.
func TestBodiesThatCompare(t *testing.T) {
	testFollow(t, "P4", []followCase{
		{someFacts + "z(X) :- n(X), X = a.", someTold + "z(a)."},
		{someFacts + "z(X) :- n(X), 1 = X.", someTold + "z(1)."},
		{someFacts + "z(X) :- n(X), X = b.", someTold},
		{someFacts + "z(X,Y) :- n(X), n(Y), X = Y.", someTold + "z(1,1). z(a,a)."},
		{someFacts + "z(X) :- m(X,Y), X = Y.", someTold + "z(a)."},
		{someFacts + "z(a) :- a = a.", someTold + "z(a)."},
		{someFacts + "z(a) :- a = 1.", someTold},
		{someFacts + "z(a) :- 10 = 10.", someTold + "z(a)."},
		{someFacts + "z(a) :- 1 = 10.", someTold},

		{someFacts + "z(X) :- n(X), X # a.", someTold + "z(1)."},
		{someFacts + "z(X) :- n(X), 1 # X.", someTold + "z(a)."},
		{someFacts + "z(X) :- n(X), X # b.", someTold + "z(1). z(a)."},
		{someFacts + "z(X,Y) :- n(X), n(Y), X # Y.", someTold + "z(1,a). z(a,1)."},
		{someFacts + "z(X) :- m(X,Y), X # Y.", someTold + "z(1)."},
		{someFacts + "z(a) :- a # b.", someTold + "z(a)."},
		{someFacts + "z(a) :- a # a.", someTold},

		{someFacts + "z(X) :- n(X), X < a.", someTold + "z(1)."},
		{someFacts + "z(X) :- n(X), a < X.", someTold},
		{someFacts + "z(X) :- n(X), 1 < X.", someTold + "z(a)."},
		{someFacts + "z(X) :- n(X), X < b.", someTold + "z(1). z(a)."},
		{someFacts + "z(X,Y) :- n(X), n(Y), X < Y.", someTold + "z(1,a)."},
		{someFacts + "z(X,Y) :- n(X), n(Y), Y < X.", someTold + "z(a,1)."},
		{someFacts + "z(X) :- X < Y, m(X,Y).", someTold + "z(1)."},
		{someFacts + "z(a) :- a < b.", someTold + "z(a)."},
		{someFacts + "z(a) :- b < a.", someTold},
		{someFacts + "z(a) :- a < a.", someTold},

		{someFacts + "z(X) :- n(X), a < b, X # 1.", someTold + "z(a)."},
		{someFacts + "z(X) :- n(X), b < a, X # 1.", someTold},
	})
}

// P4: what stands ahead of what.
func TestAheadIsByWorthAndByDictionary(t *testing.T) {
	rising := []string{"0", "1", "2", "9", "10", "19", "20", "99", "100", "101", "999",
		"a", "aa", "aaaa", "aab", "ab", "b", "ba", "z", "za", "zz", "zzzz"}
	for i, one := range rising {
		for j, other := range rising {
			want := ""
			if i < j {
				want = "p(a).\n"
			}
			program := "p(a) :- " + one + " < " + other + "."
			if got, _, _ := augur.Follow(program); got != want {
				t.Errorf("P4: Follow(%q) = %q, want %q", program, got, want)
			}
		}
	}
}

// P5: heads follow again and again.
func TestRounds(t *testing.T) {
	testFollow(t, "P5", []followCase{
		// Each clause needs what a later one adds.
		{"d(X) :- c(X). c(X) :- b(X). b(X) :- a(X). a(a).", "a(a). b(a). c(a). d(a)."},
		{"p(e) :- p(d). p(d) :- p(c). p(c) :- p(b). p(b) :- p(a). p(a).", "p(a). p(b). p(c). p(d). p(e)."},
		// Ways along a row of steps, by ones and by twos.
		{
			"p(X,Z) :- p(X,Y), p(Y,Z). p(1,2). p(2,3). p(3,4). p(4,5). p(5,6).",
			"p(1,2). p(1,3). p(1,4). p(1,5). p(1,6). p(2,3). p(2,4). p(2,5). p(2,6). p(3,4). p(3,5). p(3,6). p(4,5). p(4,6). p(5,6).",
		},
		{
			"r(1). r(Y) :- r(X), s(X,Y). s(5,6). s(4,5). s(3,4). s(2,3). s(1,2).",
			"r(1). r(2). r(3). r(4). r(5). r(6). s(1,2). s(2,3). s(3,4). s(4,5). s(5,6).",
		},
		// Every other one.
		{
			"e(0). o(Y) :- e(X), s(X,Y). e(Y) :- o(X), s(X,Y). s(0,1). s(1,2). s(2,3). s(3,4).",
			"e(0). e(2). e(4). o(1). o(3). s(0,1). s(1,2). s(2,3). s(3,4).",
		},
	})
}

// P5: clauses that go round in a ring come to an end, and nothing follows from
// the ring alone.
func TestRings(t *testing.T) {
	testFollow(t, "P5", []followCase{
		{"p(a) :- p(a).", ""},
		{"p(X) :- p(X).", ""},
		{"p(a). p(X) :- p(X).", "p(a)."},
		{"p(X) :- q(X). q(X) :- p(X).", ""},
		{"p(X) :- q(X). q(X) :- p(X). q(a).", "p(a). q(a)."},
		{"p(X) :- q(X). q(X) :- r(X). r(X) :- p(X). p(a). q(b). r(c).",
			"p(a). p(b). p(c). q(a). q(b). q(c). r(a). r(b). r(c)."},
		{"p(X,Y) :- p(Y,X). p(a,b). p(b,c).", "p(a,b). p(b,a). p(b,c). p(c,b)."},
		{"p(Y,X) :- p(X,Y), X < Y. p(a,b). p(b,1).", "p(a,b). p(b,1). p(b,a)."},
		{"e(a,b). e(b,a). p(X,Y) :- e(X,Y). p(X,Z) :- p(X,Y), e(Y,Z).",
			"e(a,b). e(b,a). p(a,a). p(a,b). p(b,a). p(b,b)."},
		// In one layer, beside a `!` of a lower one.
		{"p(X) :- q(X), !r(X). q(X) :- p(X). q(a). q(b). r(b).", "p(a). q(a). q(b). r(b)."},
	})
}

// P5: a layer is at its end ahead of the next one.
func TestLayers(t *testing.T) {
	testFollow(t, "P5", []followCase{
		// The lower layer's clauses stand behind.
		{"p(a) :- !q(a). q(a) :- r(a). r(a).", "q(a). r(a)."},
		{"p(X) :- n(X), !q(X). n(a). n(b). q(Y) :- q(X), s(X,Y). q(a). s(a,b).", "n(a). n(b). q(a). q(b). s(a,b)."},
		// A tower of `!`.
		{"a(x) :- !b(x). b(x) :- !c(x). c(x) :- !d(x). d(x) :- !e(x). e(x) :- !f(x).", "a(x). c(x). e(x)."},
		{"a(x) :- !b(x). b(x) :- !c(x). c(x) :- !d(x). d(x) :- !e(x). e(x) :- !f(x). f(x).", "b(x). d(x). f(x)."},
		{"f(x). e(x) :- !f(x). d(x) :- !e(x). c(x) :- !d(x). b(x) :- !c(x). a(x) :- !b(x).", "b(x). d(x). f(x)."},
		// Two ways to one relation: the one with more `!` counts.
		{"a(x) :- !b(x). a(x) :- !d(x). b(x) :- !c(x). c(x) :- !d(x).", "a(x). c(x)."},
		{"a(x) :- b(x), !d(x). b(x) :- !c(x). c(x) :- !e(x). e(x).", "a(x). b(x). e(x)."},
		// A layer is handed on through atoms without `!`.
		{"a(x) :- !b(x). b(x) :- c(x). c(x) :- d(x). d(x) :- !e(x). e(x) :- f(x).", "b(x). c(x). d(x)."},
		{"a(x) :- !b(x). b(x) :- c(x). c(x) :- d(x). d(x) :- !e(x). e(x) :- f(x). f(x).", "a(x). e(x). f(x)."},
		// Several `!` in one body.
		{"n(a). n(b). n(c). p(a). q(b). r(X) :- n(X), !p(X), !q(X).", "n(a). n(b). n(c). p(a). q(b). r(c)."},
		{documentProgram + "s(X,X) :- e(X,Y), !r(X,c).",
			"e(a,b). e(b,c). p(a,b). p(a,c). p(b,c). r(a,c). s(b,b)."},
	})
}

func TestProgramsOfLittle(t *testing.T) {
	testFollow(t, "P5", []followCase{
		{"", ""},
		{" \n ", ""},
		{"p(a).", "p(a)."},
		{"p(a). p(a).", "p(a)."},
		{"p(0,abcd).", "p(0,abcd)."},
		{"\n p ( a , 10 )\n.\n", "p(a,10)."},
		{"q(b). p(b). q(a).", "p(b). q(a). q(b)."},
		{"p(X) :- q(X).", ""},
		{"p(X) :- q(X), r(X). q(X) :- r(X), X # a.", ""},
		{"p(a) :- q(a). r(b) :- p(a), a = a.", ""},
	})
}

// P5: names by dictionary, then first things, then second ones; NUMBERs by
// worth ahead of words.
func TestFactsStandInTheirOrder(t *testing.T) {
	testFollow(t, "P5", []followCase{
		{"b(a). ab(a). a(a). aa(a). z(a). aaaa(a).", "a(a). aa(a). aaaa(a). ab(a). b(a). z(a)."},
		{"p(a). p(100). p(20). p(3). p(0). p(99).", "p(0). p(3). p(20). p(99). p(100). p(a)."},
		{"p(b). p(ab). p(a). p(aa). p(z). p(9).", "p(9). p(a). p(aa). p(ab). p(b). p(z)."},
		{"p(a,b). p(a,10). p(a,9). p(10,a). p(9,b). p(b,9). p(9,a).",
			"p(9,a). p(9,b). p(10,a). p(a,9). p(a,10). p(a,b). p(b,9)."},
		{"q(1). p(2). q(2). p(1).", "p(1). p(2). q(1). q(2)."},
		{"p(b,a). p(a,b). p(a,aa). p(aa,a).", "p(a,aa). p(a,b). p(aa,a). p(b,a)."},
		{"b(10). b(9). a(X) :- b(X).", "a(9). a(10). b(9). b(10)."},
	})
}

// P5 at each limit: what follows where it is just met.
func TestFollowAtTheLimits(t *testing.T) {
	blanks := func(n int) string { return strings.Repeat(" ", n) }
	testFollow(t, "P5", []followCase{
		{"p(a)." + blanks(282) + "q(X) :- p(X).", "p(a). q(a)."},
		{"q(X) :- p(X)." + strings.Repeat("p(a).", 10) + "p(b).", "p(a). p(b). q(a). q(b)."},
		{"p(a,b). q(Y,X) :- p(X,Y), X < Y, !p(Y,X).", "p(a,b). q(b,a)."},
		{"wxyz(abcd,999). zzzz(X,0) :- wxyz(abcd,X).", "wxyz(abcd,999). zzzz(999,0)."},
		{"a(x). b(X) :- a(X). c(X) :- b(X). d(X) :- c(X). e(X) :- d(X). f(X) :- e(X).",
			"a(x). b(x). c(x). d(x). e(x). f(x)."},
		{"p(0,1). p(2,3). p(4,5). q(X,Y) :- p(X,Z), p(Y,W), Z < Y.",
			"p(0,1). p(2,3). p(4,5). q(0,2). q(0,4). q(2,4)."},
	})
	for _, c := range []struct {
		program string
		e       augur.Errno
		place   int
	}{
		{"p(a)." + blanks(283) + "q(X) :- p(X).", augur.ErrLong, 0},
		{"q(X) :- p(X)." + strings.Repeat("p(a).", 11) + "p(b).", augur.ErrMany, 68},
		{"p(a,b). q(Y,X) :- p(X,Y), X < Y, !p(Y,X), a = a.", augur.ErrMany, 8},
		{"p(a,b). q(X,Y,X) :- p(X,Y).", augur.ErrMany, 8},
		{"wxyz(abcd,1000).", augur.ErrForm, 10},
		{"vwxyz(abcd,999).", augur.ErrForm, 0},
		{"a(x). b(X) :- a(X). c(X) :- b(X). d(X) :- c(X). e(X) :- d(X). f(X) :- e(X). g(x).", augur.ErrMany, 76},
		{"p(0,1). p(2,3). p(4,5). q(X,6) :- p(X,X).", augur.ErrMany, 24},
	} {
		if got, e, place := augur.Follow(c.program); got != "" || e != c.e || place != c.place {
			t.Errorf("P5: Follow(%q) = %q, %d, %d, want %d, %d", c.program, got, e, place, c.e, c.place)
		}
	}
}

// P5: as many facts as any program has, six things in each place of six
// relations.
func TestFollowOfAllFacts(t *testing.T) {
	program := "a(0,9). a(10,99). a(x,xy). b(X,X) :- a(X,Y). b(Y,Y) :- a(X,Y). " +
		"a(X,Y) :- b(X,X), b(Y,Y), f(Z,W). b(X,Y) :- a(X,Y). c(X,Y) :- a(X,Z), b(W,Y). " +
		"d(X,Y) :- c(X,Z), c(Y,W), b(U,V). e(X,Y) :- d(X,X), d(Y,Y). f(X,Y) :- b(X,X), b(Y,Y)."
	var want strings.Builder
	things := []string{"0", "9", "10", "99", "x", "xy"}
	for _, name := range []string{"a", "b", "c", "d", "e", "f"} {
		for _, first := range things {
			for _, second := range things {
				want.WriteString(name + "(" + first + "," + second + ").\n")
			}
		}
	}
	if got, e, place := augur.Follow(program); got != want.String() || e != augur.OK || place != 0 {
		t.Errorf("P5: Follow(%q) = %q, %d, %d", program, got, e, place)
	}
}

// P5: the error of Check, with its place, and beside it nothing.
func TestFollowTellsTheErrorsOfCheck(t *testing.T) {
	seen := make(map[augur.Errno]int)
	for _, c := range checkCases {
		got, e, place := augur.Follow(c.program)
		if e != c.e || place != c.place || e != augur.OK && got != "" {
			t.Errorf("P5: Follow(%q) = %q, %d, %d, want %d, %d", c.program, got, e, place, c.e, c.place)
		}
		seen[e]++
	}
	for _, text := range hostileTexts() {
		wantE, wantPlace := augur.Check(text)
		got, e, place := augur.Follow(text)
		if e != wantE || place != wantPlace || e != augur.OK && got != "" {
			t.Errorf("P5: Follow(%q) = %q, %d, %d, want %d, %d", text, got, e, place, wantE, wantPlace)
		}
		seen[e]++
	}
	for e := augur.OK; e <= augur.ErrStrata; e++ {
		if seen[e] == 0 {
			t.Errorf("no program has the error %d", e)
		}
	}
}

// P2: what Follow answers depends on its argument alone.
func TestFollowDependsOnItsArgumentAlone(t *testing.T) {
	programs := []string{documentProgram, "p(a). q(X) :- p(X).", "p(X).", "", "p(b,a). p(X,Y) :- p(Y,X)."}
	var first []string
	for _, program := range programs {
		answer, _, _ := augur.Follow(program)
		first = append(first, answer)
	}
	var workers sync.WaitGroup
	for worker := range 8 {
		workers.Go(func() {
			for step := range 200 {
				i := (step + worker) % len(programs)
				if again, _, _ := augur.Follow(programs[i]); again != first[i] {
					t.Errorf("P2: Follow(%q) = %q, and at first %q", programs[i], again, first[i])
				}
			}
		})
	}
	workers.Wait()
}
