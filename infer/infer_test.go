package infer

import (
	"slices"
	"strings"
	"testing"

	"augur/facts"
	"augur/syntax"
)

func read(t *testing.T, program string) []syntax.Clause {
	t.Helper()
	clauses, place, ok := syntax.ReadProgram(program)
	if !ok {
		t.Fatalf("%q breaks off at %d", program, place)
	}
	return clauses
}

// searchOf answers a search for the VARIABLEs of a body, in the order of its
// head, in the facts that follow from a program.
func searchOf(t *testing.T, program, clause string) *search {
	t.Helper()
	sought := read(t, clause)[0]
	return &search{
		known: Follow(read(t, program)),
		body:  sought.Body,
		order: variables(sought.Terms()),
	}
}

// shown writes what the VARIABLEs of an order are.
func shown(order []rune, bound binding) string {
	var texts []string
	for _, variable := range order {
		texts = append(texts, bound.thing(syntax.Term{Variable: variable}).String())
	}
	return strings.Join(texts, " ")
}

const steps = "s(1,2). s(2,10). s(2,a). s(10,a). n(X) :- s(X,Y). n(Y) :- s(X,Y). "

func TestBetweenGoesThroughAllInOrder(t *testing.T) {
	for _, c := range []struct {
		clause string
		want   []string
	}{
		{"h(X,Y) :- s(X,Y).", []string{"1 2", "2 10", "2 a", "10 a"}},
		{"h(Y,X) :- s(X,Y).", []string{"2 1", "10 2", "a 2", "a 10"}},
		{"h(X) :- s(X,Y), s(Y,Z).", []string{"1 2 10", "1 2 a", "2 10 a"}},
		{"h(Z) :- s(X,Y), s(Y,Z).", []string{"10 1 2", "a 1 2", "a 2 10"}},
		{"h(X) :- n(X), !s(X,a).", []string{"1", "a"}},
		{"h(X) :- n(X), X # 2, X < a.", []string{"1", "10"}},
		{"h(X) :- s(X,X).", nil},
		{"h(X) :- n(X), s(2,X), s(10,X).", []string{"a"}},
		{"h(a) :- s(1,2).", []string{""}},
		{"h(a) :- s(1,1).", nil},
		{"h(a) :- a < 1, n(X).", nil},
	} {
		s := searchOf(t, steps, c.clause)
		var got []string
		for bound := range s.between(0, len(s.order), binding{}) {
			got = append(got, shown(s.order, bound))
		}
		if !slices.Equal(got, c.want) {
			t.Errorf("%q: between goes through %q, want %q", c.clause, got, c.want)
		}
	}
}

func TestBetweenMayBeLeftEarly(t *testing.T) {
	s := searchOf(t, steps, "h(X) :- n(X), n(Y), n(Z).")
	for end := 1; end <= 64; end++ {
		var kept []binding
		for bound := range s.between(0, 3, binding{}) {
			kept = append(kept, bound)
			if len(kept) == end {
				break
			}
		}
		if len(kept) != end {
			t.Fatalf("between was left after %d, not %d", len(kept), end)
		}
		// What was handed out stays as it was.
		if first := shown(s.order, kept[0]); first != "1 1 1" {
			t.Fatalf("the first one has become %q", first)
		}
	}
}

func TestBetweenStopsAtAPlace(t *testing.T) {
	s := searchOf(t, steps, "h(X) :- n(X), s(X,Y).")
	var got []string
	for bound := range s.between(0, 1, binding{}) {
		got = append(got, shown(s.order, bound))
		if _, found := s.first(1, 2, bound); !found {
			t.Errorf("%q cannot end", shown(s.order, bound))
		}
	}
	if want := []string{"1 ", "2 ", "10 "}; !slices.Equal(got, want) {
		t.Errorf("between = %q, want %q", got, want)
	}
	s = searchOf(t, steps, "h(X) :- n(X), s(Y,Z), Z < Y.")
	if _, found := s.first(1, 3, binding{}.with('X', facts.ThingOf("1"))); found {
		t.Errorf("a body can end that cannot hold")
	}
}

func TestLayers(t *testing.T) {
	for program, want := range map[string]string{
		"":                                 "",
		"p(a).":                            "p",
		"p(a) :- q(a).":                    "p",
		"p(a) :- !q(a).":                   "/p",
		"p(a) :- !q(a). q(a).":             "q/p",
		"p(a) :- q(a). q(a) :- p(a).":      "pq",
		"p(a) :- q(a). q(a) :- !r(a).":     "/pq",
		"p(a) :- !q(a), r(a). r(a). q(a).": "rq/p",
		"p(a) :- !q(a). q(a) :- !r(a). r(a) :- !s(a). p(a) :- !s(a).": "/r/q/pp",
		"p(a) :- !q(a). p(a). q(a) :- r(a), a = a. r(a) :- !s(a).":    "/qr/pp",
		"p(X) :- p(X), !q(X). q(X) :- q(X), !r(X). t(X) :- p(X).":     "/q/pt",
	} {
		var parts []string
		clauses := read(t, program)
		for _, layer := range layers(clauses) {
			var names string
			for _, number := range layer {
				names += clauses[number].Head.Name
			}
			parts = append(parts, names)
		}
		if got := strings.Join(parts, "/"); got != want {
			t.Errorf("%q has the layers %q, want %q", program, got, want)
		}
	}
}

func bodyOf(t *testing.T, text string) syntax.Body {
	t.Helper()
	body, place, ok := syntax.ReadBody(text)
	if !ok {
		t.Fatalf("%q breaks off at %d", text, place)
	}
	return body
}

func TestAnswersStandInTheOrderOfTheBody(t *testing.T) {
	known := Follow(read(t, steps))
	var got []string
	for values := range Answers(known, bodyOf(t, "Y # 2, s(X,Y)")) {
		var line string
		for _, value := range values {
			line += string(value.Variable) + value.Thing.String()
		}
		got = append(got, line)
	}
	if want := []string{"Y10X2", "YaX2", "YaX10"}; !slices.Equal(got, want) {
		t.Errorf("Answers = %q, want %q", got, want)
	}
}

func TestAnswersMayBeLeftEarly(t *testing.T) {
	known := Follow(read(t, steps))
	all := Answers(known, bodyOf(t, "n(X), n(Y)"))
	for end := 1; end <= 16; end++ {
		var kept [][]Value
		for values := range all {
			kept = append(kept, values)
			if len(kept) == end {
				break
			}
		}
		// What was handed out shares no memory with what comes later.
		want := []Value{{'X', "001"}, {'Y', "001"}}
		if len(kept) != end || !slices.Equal(kept[0], want) {
			t.Fatalf("Answers was left after %d, with %v first", len(kept), kept[0])
		}
	}
}

func TestWhyAnswersOnlyWhatIsNeeded(t *testing.T) {
	clauses := read(t, "n(a). n(b). n(c). p(X) :- n(X). q(X) :- p(X), n(Y), X < Y. r(X) :- q(X).")
	for fact, want := range map[string]string{
		"n(c).": "n(c).2",
		"p(b).": "n(b).1 p(b).3",
		"r(b).": "n(b).1 n(c).2 p(b).3 q(b).4 r(b).5",
		"r(c).": "",
		"z(a).": "",
	} {
		sought, ok := syntax.ReadFact(fact)
		if !ok {
			t.Fatalf("%q is no fact", fact)
		}
		var steps []string
		for _, step := range Why(clauses, sought) {
			steps = append(steps, step.Fact.String()+string(rune('0'+step.Clause)))
		}
		if got := strings.Join(steps, " "); got != want {
			t.Errorf("Why of %q = %q, want %q", fact, got, want)
		}
	}
}
