package augur_test

import (
	"maps"
	"math/rand"
	"sort"
	"strconv"
	"strings"
	"testing"

	"augur/augur"
)

// The oracle works out what follows in another way than the program does: by
// trying all things for all VARIABLEs, and with no layers. It guesses which
// facts there are, takes `!` from the guess, works out the rest, and takes that
// for the next guess, till two guesses are the same.

// piece is an atom, or what two terms are held against each other by.
type piece struct {
	sign  string // "", "!", "=", "#" or "<"
	name  string // of an atom
	terms []string
}

// rule is a head and a body of pieces.
type rule struct {
	head piece
	body []piece
}

func (p piece) String() string {
	if p.name == "" {
		return p.terms[0] + " " + p.sign + " " + p.terms[1]
	}
	return p.sign + p.name + "(" + strings.Join(p.terms, ",") + ")"
}

func (r rule) String() string {
	var body []string
	for _, literal := range r.body {
		body = append(body, literal.String())
	}
	if len(body) == 0 {
		return r.head.String() + "."
	}
	return r.head.String() + " :- " + strings.Join(body, ", ") + "."
}

func textOf(rules []rule) string {
	var texts []string
	for _, r := range rules {
		texts = append(texts, r.String())
	}
	return strings.Join(texts, " ")
}

func isVariable(term string) bool {
	return term >= "A" && term <= "Z"
}

// isAhead tells the order of things.
func isAhead(one, other string) bool {
	first, firstErr := strconv.Atoi(one)
	second, secondErr := strconv.Atoi(other)
	switch {
	case firstErr == nil && secondErr == nil:
		return first < second
	case firstErr != nil && secondErr != nil:
		return one < other
	}
	return firstErr == nil
}

// put answers the piece with things for VARIABLEs.
func (p piece) put(values map[string]string) piece {
	filled := piece{sign: p.sign, name: p.name}
	for _, term := range p.terms {
		if isVariable(term) {
			term = values[term]
		}
		filled.terms = append(filled.terms, term)
	}
	return filled
}

// holdsIn tells whether the piece, which has no VARIABLE, holds, if the facts
// are these, and those that `!` asks for are the guessed ones.
func (p piece) holdsIn(facts, guess map[string]bool) bool {
	atom := piece{name: p.name, terms: p.terms}
	switch p.sign {
	case "":
		return facts[atom.String()]
	case "!":
		return !guess[atom.String()]
	case "=":
		return p.terms[0] == p.terms[1]
	case "#":
		return p.terms[0] != p.terms[1]
	}
	return isAhead(p.terms[0], p.terms[1])
}

// collect answers the VARIABLEs of a rule and the things of all rules.
func collect(rules []rule) (variables [][]string, things []string) {
	seenThing := make(map[string]bool)
	for _, r := range rules {
		seen := make(map[string]bool)
		var own []string
		for _, p := range append([]piece{r.head}, r.body...) {
			for _, term := range p.terms {
				if isVariable(term) && !seen[term] {
					seen[term] = true
					own = append(own, term)
				} else if !isVariable(term) && !seenThing[term] {
					seenThing[term] = true
					things = append(things, term)
				}
			}
		}
		variables = append(variables, own)
	}
	return variables, things
}

// instances answers the rule with all of the things in place of its VARIABLEs.
func (r rule) instances(things []string) []rule {
	variables, _ := collect([]rule{r})
	var all []rule
	forAll(variables[0], things, func(values map[string]string) {
		filled := rule{head: r.head.put(values)}
		for _, literal := range r.body {
			filled.body = append(filled.body, literal.put(values))
		}
		all = append(all, filled)
	})
	return all
}

// forAll calls for all that the VARIABLEs can be, the first one's things first.
func forAll(variables, things []string, call func(values map[string]string)) {
	values := make(map[string]string)
	var fill func(open []string)
	fill = func(open []string) {
		if len(open) == 0 {
			call(values)
			return
		}
		for _, thing := range things {
			values[open[0]] = thing
			fill(open[1:])
		}
	}
	fill(variables)
}

// ground answers the rules with all things in place of their VARIABLEs.
func ground(rules []rule) []rule {
	_, things := collect(rules)
	var all []rule
	for _, r := range rules {
		all = append(all, r.instances(things)...)
	}
	return all
}

// least answers what follows from rules without VARIABLEs, if the guess is
// right.
func least(rules []rule, guess map[string]bool) map[string]bool {
	facts := make(map[string]bool)
	for before := -1; before != len(facts); {
		before = len(facts)
	next:
		for _, r := range rules {
			for _, literal := range r.body {
				if !literal.holdsIn(facts, guess) {
					continue next
				}
			}
			facts[r.head.String()] = true
		}
	}
	return facts
}

// oracle answers all that follows.
func oracle(rules []rule) map[string]bool {
	all := ground(rules)
	facts := least(all, nil)
	// Each guess is right in one layer more, and there are few layers.
	for range 20 {
		next := least(all, facts)
		if maps.Equal(next, facts) {
			return facts
		}
		facts = next
	}
	panic("the guesses come to no end")
}

// written answers the facts in their order.
func written(facts map[string]bool) string {
	var list []string
	for fact := range facts {
		list = append(list, fact)
	}
	sort.Slice(list, func(i, j int) bool {
		one := strings.FieldsFunc(list[i], isSign)
		other := strings.FieldsFunc(list[j], isSign)
		if one[0] != other[0] {
			return one[0] < other[0]
		}
		if one[1] != other[1] {
			return isAhead(one[1], other[1])
		}
		return len(one) > 2 && isAhead(one[2], other[2])
	})
	var text strings.Builder
	for _, fact := range list {
		text.WriteString(fact + ".\n")
	}
	return text.String()
}

func isSign(letter rune) bool {
	return strings.ContainsRune("(,)", letter)
}

// maker makes programs by chance, the same ones from the same seed.
type maker struct {
	*rand.Rand
	names, things, variables []string
}

func newMaker(seed int64) *maker {
	m := &maker{Rand: rand.New(rand.NewSource(seed))}
	pool := []string{"0", "1", "2", "10", "20", "100", "a", "b", "aa", "ab", "z", "abcd"}
	m.Shuffle(len(pool), func(i, j int) { pool[i], pool[j] = pool[j], pool[i] })
	m.things = pool[:2+m.Intn(3)]
	m.names = []string{"p", "q", "n", "m", "ps"}[:2+m.Intn(4)]
	m.variables = []string{"X", "Y", "Z", "A"}[:1+m.Intn(4)]
	return m
}

func (m *maker) pick(list []string) string {
	return list[m.Intn(len(list))]
}

// term picks a thing now and then, else one of the VARIABLEs, if there are any.
func (m *maker) term(variables []string) string {
	if len(variables) == 0 || m.Intn(20) == 0 {
		return m.pick(m.things)
	}
	return m.pick(variables)
}

func (m *maker) atom(variables []string) piece {
	name := m.pick(m.names)
	atom := piece{name: name, terms: []string{m.term(variables)}}
	if name != "n" && name != "m" {
		atom.terms = append(atom.terms, m.term(variables))
	}
	return atom
}

// rule makes one of so many atoms without `!`, and some more literals.
func (m *maker) rule(atoms int) rule {
	var r rule
	for range atoms {
		r.body = append(r.body, m.atom(m.variables))
	}
	bound, _ := collect([]rule{r})
	for len(r.body) < 3 && m.Intn(3) == 0 {
		more := m.atom(bound[0])
		more.sign = "!"
		if m.Intn(2) == 0 {
			more = piece{sign: m.pick([]string{"=", "#", "<"}), terms: []string{m.term(bound[0]), m.term(bound[0])}}
		}
		r.body = append(r.body, more)
	}
	m.Shuffle(len(r.body), func(i, j int) { r.body[i], r.body[j] = r.body[j], r.body[i] })
	r.head = m.atom(bound[0])
	return r
}

func (m *maker) rules() []rule {
	var rules []rule
	for range 2 + m.Intn(5) {
		rules = append(rules, rule{head: m.atom(nil)})
	}
	for range 2 + m.Intn(5) {
		rules = append(rules, m.rule([]int{0, 1, 1, 1, 2, 2, 2, 3}[m.Intn(8)]))
	}
	m.Shuffle(len(rules), func(i, j int) { rules[i], rules[j] = rules[j], rules[i] })
	return rules
}

// P4 and P5, at many programs.
func TestFollowIsWhatTheOracleTells(t *testing.T) {
	tried, withAbsence := 0, 0
	for seed := range int64(6000) {
		rules := newMaker(seed).rules()
		program := textOf(rules)
		if e, _ := augur.Check(program); e != augur.OK {
			continue
		}
		tried++
		if strings.Contains(program, "!") {
			withAbsence++
		}
		got, e, place := augur.Follow(program)
		if want := written(oracle(rules)); got != want || e != augur.OK || place != 0 {
			t.Errorf("P5: Follow(%q) = %q, %d, %d, want %q", program, got, e, place, want)
		}
	}
	if tried < 2000 || withAbsence < 500 {
		t.Errorf("of the programs made, %d are right, %d of them with `!`", tried, withAbsence)
	}
}

// P5: neither the order of the clauses nor that of a body's literals counts.
func TestFollowDoesNotHangOnTheOrderOfClauses(t *testing.T) {
	for seed := range int64(1000) {
		m := newMaker(seed)
		rules := m.rules()
		first, e, _ := augur.Follow(textOf(rules))
		if e != augur.OK {
			continue
		}
		m.Shuffle(len(rules), func(i, j int) { rules[i], rules[j] = rules[j], rules[i] })
		for _, r := range rules {
			m.Shuffle(len(r.body), func(i, j int) { r.body[i], r.body[j] = r.body[j], r.body[i] })
		}
		if again, _, _ := augur.Follow(textOf(rules)); again != first {
			t.Errorf("P5: Follow(%q) = %q, in another order %q", textOf(rules), again, first)
		}
	}
}
