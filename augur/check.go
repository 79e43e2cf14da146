package augur

import (
	"augur/facts"
	"augur/rising"
	"augur/syntax"
)

const (
	maxText    = 300 // bytes of a text
	maxClauses = 12
	maxBody    = 3 // literals of a body
	maxArgs    = 2 // arguments of an atom
	maxNames   = 6 // of a program's relations
	maxThings  = 6 // of a program
)

// load reads a program, or tells the first error of it with its place.
func load(program string) ([]syntax.Clause, Errno, int) {
	if len(program) > maxText {
		return nil, ErrLong, 0
	}
	clauses, place, ok := syntax.ReadProgram(program)
	if !ok {
		return nil, ErrForm, place
	}
	if e, place := checkClauses(clauses); e != OK {
		return nil, e, place
	}
	if place, found := findLoop(clauses); found {
		return nil, ErrStrata, place
	}
	return clauses, OK, 0
}

// checkClauses tells the error of the first clause that has one: a later
// clause's error does not count, though it be named ahead.
func checkClauses(clauses []syntax.Clause) (Errno, int) {
	var seen census
	for _, clause := range clauses {
		seen.count(clause)
		if seen.isTooMany() || isTooGreat(clause) {
			return ErrMany, clause.Head.Place
		}
		if place, found := seen.findOtherArity(clause); found {
			return ErrArity, place
		}
		if place, found := findUnsafe(clause); found {
			return ErrUnsafe, place
		}
	}
	return OK, 0
}

// census is what the clauses up to one have used.
type census struct {
	clauses int
	names   []string      // rising
	things  []facts.Thing // rising
	arities []arity
}

// arity is the number of arguments with which a relation stands first.
type arity struct {
	name string
	args int
}

// count takes a clause in, but for its arities.
func (c *census) count(clause syntax.Clause) {
	c.clauses++
	c.names = addNames(c.names, clause)
	for _, term := range clause.Terms() {
		if term.Variable == 0 {
			c.things = rising.Add(c.things, term.Thing)
		}
	}
}

func (c *census) isTooMany() bool {
	return c.clauses > maxClauses || len(c.names) > maxNames || len(c.things) > maxThings
}

// isTooGreat tells whether the clause by itself is above a limit.
func isTooGreat(clause syntax.Clause) bool {
	for _, atom := range clause.Atoms() {
		if len(atom.Terms) > maxArgs {
			return true
		}
	}
	return len(clause.Body) > maxBody
}

// findOtherArity takes the clause's arities in, up to the first atom that has
// another one than its relation had, and tells that atom's place.
func (c *census) findOtherArity(clause syntax.Clause) (int, bool) {
	for _, atom := range clause.Atoms() {
		own := arity{atom.Name, len(atom.Terms)}
		known, found := c.arityOf(atom.Name)
		if !found {
			c.arities = append(c.arities, own)
		} else if known != own {
			return atom.Place, true
		}
	}
	return 0, false
}

func (c *census) arityOf(name string) (arity, bool) {
	for _, known := range c.arities {
		if known.name == name {
			return known, true
		}
	}
	return arity{}, false
}

// findUnsafe tells the place of the head, or of the first literal, that has a
// VARIABLE which nothing binds.
func findUnsafe(clause syntax.Clause) (int, bool) {
	loose := looseVariables(clause)
	if len(rising.Common(variables(clause.Head.Terms), loose)) > 0 {
		return clause.Head.Place, true
	}
	return findVariable(clause.Body, loose)
}

// findVariable tells the place of the first literal that has one of the
// VARIABLEs.
func findVariable(body []syntax.Literal, sought []rune) (int, bool) {
	for _, literal := range body {
		if len(rising.Common(variables(literal.Terms()), sought)) > 0 {
			return literal.Place, true
		}
	}
	return 0, false
}

// looseVariables answers, rising, the clause's VARIABLEs that stand in no atom
// of the body without `!`.
func looseVariables(clause syntax.Clause) []rune {
	var binding []syntax.Term
	for _, literal := range clause.Body {
		if literal.Sort == syntax.Present {
			binding = append(binding, literal.Atom.Terms...)
		}
	}
	return rising.Without(variables(clause.Terms()), variables(binding))
}

// variables answers the VARIABLEs among the terms, rising.
func variables(terms []syntax.Term) []rune {
	var letters []rune
	for _, term := range terms {
		if term.Variable != 0 {
			letters = rising.Add(letters, term.Variable)
		}
	}
	return letters
}

// findLoop tells the place of the first literal with `!` whose relation leans
// on that of its clause's head.
func findLoop(clauses []syntax.Clause) (int, bool) {
	for _, clause := range clauses {
		for _, literal := range clause.Body {
			if literal.Sort != syntax.Absent {
				continue
			}
			if rising.Has(leaning(clauses, literal.Atom.Name), clause.Head.Name) {
				return literal.Place, true
			}
		}
	}
	return 0, false
}

// leaning answers, rising, the relations on which the named one leans. It ends
// since there are but so many names for the list to grow by.
func leaning(clauses []syntax.Clause, name string) []string {
	names := []string{name}
	for {
		before := len(names)
		for _, clause := range clauses {
			if rising.Has(names, clause.Head.Name) {
				names = addNames(names, clause)
			}
		}
		if len(names) == before {
			return names
		}
	}
}

// addNames adds the names of the clause's relations to a rising list.
func addNames(names []string, clause syntax.Clause) []string {
	for _, atom := range clause.Atoms() {
		names = rising.Add(names, atom.Name)
	}
	return names
}
