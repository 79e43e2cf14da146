package syntax

import (
	"reflect"
	"testing"

	"augur/facts"
)

func TestCut(t *testing.T) {
	for _, c := range []struct {
		text string
		want []mark
	}{
		{"", []mark{{end, 0, ""}}},
		{" \n ", []mark{{end, 3, ""}}},
		{"ab12X", []mark{{word, 0, "ab"}, {number, 2, "12"}, {variable, 4, "X"}, {end, 5, ""}}},
		{"XY", []mark{{variable, 0, "X"}, {variable, 1, "Y"}, {end, 2, ""}}},
		{"ab cd", []mark{{word, 0, "ab"}, {word, 3, "cd"}, {end, 5, ""}}},
		{"1 2", []mark{{number, 0, "1"}, {number, 2, "2"}, {end, 3, ""}}},
		{"abcd abcde", []mark{{word, 0, "abcd"}, {nothing, 5, "abcde"}, {end, 10, ""}}},
		{"0 00 01 10 999 1000", []mark{
			{number, 0, "0"}, {nothing, 2, "00"}, {nothing, 5, "01"}, {number, 8, "10"},
			{number, 11, "999"}, {nothing, 15, "1000"}, {end, 19, ""},
		}},
		{":- : - :--", []mark{
			{sign, 0, ":-"}, {sign, 3, ":"}, {nothing, 5, "-"},
			{sign, 7, ":-"}, {nothing, 9, "-"}, {end, 10, ""},
		}},
		{"..(,", []mark{{sign, 0, "."}, {sign, 1, "."}, {sign, 2, "("}, {sign, 3, ","}, {end, 4, ""}}},
		{"é\xffa\t", []mark{
			{nothing, 0, "é"}, {nothing, 2, "\ufffd"}, {word, 3, "a"}, {nothing, 4, "\t"}, {end, 5, ""},
		}},
	} {
		if got := cut(c.text); !reflect.DeepEqual(got, c.want) {
			t.Errorf("cut(%q) = %v, want %v", c.text, got, c.want)
		}
	}
}

func TestReadProgramAnswersTheTree(t *testing.T) {
	text := "p(a,X) :- q ( X ) , ! r(10),\nX = b, X#Y, 0 < ab. s(0)."
	want := []Clause{
		{
			Head: Atom{0, "p", []Term{{Thing: "a"}, {Variable: 'X'}}},
			Body: []Literal{
				{Place: 10, Sort: Present, Atom: Atom{10, "q", []Term{{Variable: 'X'}}}},
				{Place: 20, Sort: Absent, Atom: Atom{22, "r", []Term{{Thing: "010"}}}},
				{Place: 29, Sort: Same, Left: Term{Variable: 'X'}, Right: Term{Thing: "b"}},
				{Place: 36, Sort: Other, Left: Term{Variable: 'X'}, Right: Term{Variable: 'Y'}},
				{Place: 41, Sort: Ahead, Left: Term{Thing: "000"}, Right: Term{Thing: "ab"}},
			},
		},
		{Head: Atom{49, "s", []Term{{Thing: "000"}}}},
	}
	got, place, ok := ReadProgram(text)
	if !ok || place != 0 || !reflect.DeepEqual(got, want) {
		t.Errorf("ReadProgram(%q) = %v, %d, %v, want %v", text, got, place, ok, want)
	}
}

func TestReadProgramAnswersNoTreeOfABrokenText(t *testing.T) {
	got, place, ok := ReadProgram("p(a). q(a) r(a).")
	if got != nil || place != 11 || ok {
		t.Errorf("ReadProgram = %v, %d, %v", got, place, ok)
	}
}

func TestAtomsAndTermsStandInTheirOrder(t *testing.T) {
	clauses, _, _ := ReadProgram("p(a,X) :- Y = b, !q(c), r(Z,1).")
	var names string
	for _, atom := range clauses[0].Atoms() {
		names += atom.Name
	}
	var terms string
	for _, term := range clauses[0].Terms() {
		if term.Variable != 0 {
			terms += string(term.Variable)
		}
		terms += term.Thing.String()
	}
	if names != "pqr" || terms != "aXYbcZ1" {
		t.Errorf("Atoms have the names %q, Terms are %q", names, terms)
	}
}

func TestReadBody(t *testing.T) {
	text := " q(X), !r(1) , X # a "
	want := Body{
		{Place: 1, Sort: Present, Atom: Atom{1, "q", []Term{{Variable: 'X'}}}},
		{Place: 7, Sort: Absent, Atom: Atom{8, "r", []Term{{Thing: "001"}}}},
		{Place: 15, Sort: Other, Left: Term{Variable: 'X'}, Right: Term{Thing: "a"}},
	}
	if got, place, ok := ReadBody(text); !ok || place != 0 || !reflect.DeepEqual(got, want) {
		t.Errorf("ReadBody(%q) = %v, %d, %v, want %v", text, got, place, ok, want)
	}
	for text, want := range map[string]int{"": 0, "q(X).": 4, "q(X),": 5, "q(X) r(X)": 5, "q(X) :- r(X)": 5, "q(X": 3} {
		if got, place, ok := ReadBody(text); ok || place != want || got != nil {
			t.Errorf("ReadBody(%q) = %v, %d, %v, want %d", text, got, place, ok, want)
		}
	}
}

func TestReadFact(t *testing.T) {
	for text, want := range map[string]facts.Fact{
		"p(a).":         {Name: "p", Things: []facts.Thing{"a"}},
		"abcd(0,wxyz).": {Name: "abcd", Things: []facts.Thing{"000", "wxyz"}},
		"p(99,1,a).":    {Name: "p", Things: []facts.Thing{"099", "001", "a"}},
	} {
		if got, ok := ReadFact(text); !ok || !reflect.DeepEqual(got, want) {
			t.Errorf("ReadFact(%q) = %v, %v, want %v", text, got, ok, want)
		}
	}
	for _, text := range []string{
		"", "p(a)", "p(a). ", " p(a).", "p(a, b).", "p(X).", "p(a,X).", "p(a):-q(a).", "p(a).p(a).", "p(01).", "p(abcde).", "p(é).",
	} {
		if got, ok := ReadFact(text); ok || !reflect.DeepEqual(got, facts.Fact{}) {
			t.Errorf("ReadFact(%q) = %v, %v", text, got, ok)
		}
	}
}

func TestClauseOf(t *testing.T) {
	for _, text := range []string{"p(a).", "abcd(0,wxyz).", "p(99,10)."} {
		fact, _ := ReadFact(text)
		want, _, _ := ReadProgram(text)
		if got := ClauseOf(fact); !reflect.DeepEqual([]Clause{got}, want) {
			t.Errorf("ClauseOf(%v) = %v, want %v", fact, got, want)
		}
	}
}
