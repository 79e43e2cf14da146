package syntax

import "augur/facts"

// reader goes through the marks of a text. Its methods that answer an ok of
// false have set the place at which the text breaks off.
type reader struct {
	marks  []mark // the last one is the end
	next   int
	broken int
}

// ReadProgram answers the clauses of a program. If the text is none, ok is
// false, and the number is the place at which it breaks off.
func ReadProgram(text string) (clauses []Clause, place int, ok bool) {
	r := &reader{marks: cut(text)}
	for r.marks[r.next].kind != end {
		clause, ok := r.clause()
		if !ok {
			return nil, r.broken, false
		}
		clauses = append(clauses, clause)
	}
	return clauses, 0, true
}

// ReadBody is ReadProgram for a text that is a body.
func ReadBody(text string) (body Body, place int, ok bool) {
	r := &reader{marks: cut(text)}
	body, ok = r.body()
	if !ok || !r.wantEnd() {
		return nil, r.broken, false
	}
	return body, 0, true
}

// ReadFact answers a fact. If the text is none as it is written, ok is false.
func ReadFact(text string) (fact facts.Fact, ok bool) {
	clauses, _, ok := ReadProgram(text)
	if !ok || len(clauses) != 1 {
		return facts.Fact{}, false
	}
	fact.Name = clauses[0].Head.Name
	for _, term := range clauses[0].Head.Terms {
		fact.Things = append(fact.Things, term.Thing)
	}
	// What is more in the text, or no thing, is not written again.
	if fact.String() != text {
		return facts.Fact{}, false
	}
	return fact, true
}

// here tells the place of the next mark.
func (r *reader) here() int {
	return r.marks[r.next].place
}

// breakAt says where the text breaks off; it answers false for its callers to
// hand on.
func (r *reader) breakAt(place int) bool {
	r.broken = place
	return false
}

// sees tells whether the next mark is the given sign.
func (r *reader) sees(text string) bool {
	next := r.marks[r.next]
	return next.kind == sign && next.text == text
}

// take steps over the given sign, if it is next.
func (r *reader) take(text string) bool {
	if !r.sees(text) {
		return false
	}
	r.next++
	return true
}

// want is take where nothing else can stand.
func (r *reader) want(text string) bool {
	return r.take(text) || r.breakAt(r.here())
}

// wantEnd tells whether the text ends here, where nothing else can stand.
func (r *reader) wantEnd() bool {
	return r.marks[r.next].kind == end || r.breakAt(r.here())
}

func (r *reader) clause() (Clause, bool) {
	head, ok := r.atom()
	if !ok {
		return Clause{}, false
	}
	clause := Clause{Head: head}
	if r.sees(":") {
		// A `:` may stand here: only what is behind it is wrong.
		return Clause{}, r.breakAt(r.here() + 1)
	}
	if r.take(":-") {
		clause.Body, ok = r.body()
		if !ok {
			return Clause{}, false
		}
	}
	return clause, r.want(".")
}

func (r *reader) body() (Body, bool) {
	var body Body
	for {
		literal, ok := r.literal()
		if !ok {
			return nil, false
		}
		body = append(body, literal)
		if !r.take(",") {
			return body, true
		}
	}
}

func (r *reader) literal() (Literal, bool) {
	literal := Literal{Place: r.here(), Sort: Present}
	var ok bool
	if r.take("!") {
		literal.Sort = Absent
		literal.Atom, ok = r.atom()
		return literal, ok
	}
	if r.seesAtom() {
		literal.Atom, ok = r.atom()
		return literal, ok
	}
	return r.comparison()
}

// seesAtom tells whether the next marks are a word and `(`.
func (r *reader) seesAtom() bool {
	if r.marks[r.next].kind != word {
		return false
	}
	behind := r.marks[r.next+1]
	return behind.kind == sign && behind.text == "("
}

func (r *reader) comparison() (Literal, bool) {
	literal := Literal{Place: r.here()}
	var ok bool
	if literal.Left, ok = r.term(); !ok {
		return Literal{}, false
	}
	switch {
	case r.take("="):
		literal.Sort = Same
	case r.take("#"):
		literal.Sort = Other
	case r.take("<"):
		literal.Sort = Ahead
	default:
		return Literal{}, r.breakAt(r.here())
	}
	literal.Right, ok = r.term()
	return literal, ok
}

func (r *reader) atom() (Atom, bool) {
	name := r.marks[r.next]
	if name.kind != word {
		return Atom{}, r.breakAt(name.place)
	}
	r.next++
	if !r.want("(") {
		return Atom{}, false
	}
	atom := Atom{Place: name.place, Name: name.text}
	for {
		term, ok := r.term()
		if !ok {
			return Atom{}, false
		}
		atom.Terms = append(atom.Terms, term)
		if !r.take(",") {
			return atom, r.want(")")
		}
	}
}

func (r *reader) term() (Term, bool) {
	next := r.marks[r.next]
	var term Term
	switch next.kind {
	case word, number:
		term.Thing = facts.ThingOf(next.text)
	case variable:
		for _, letter := range next.text {
			term.Variable = letter
		}
	default:
		return Term{}, r.breakAt(next.place)
	}
	r.next++
	return term, true
}
