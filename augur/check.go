package augur

import (
	"augur/facts"
	"augur/rising"
	"augur/syntax"
)

const (
	maxText    = 300 // bytes of a text
	maxClauses = 12
	maxBody    = 3 // literals of a body
	maxArgs    = 2 // arguments of an atom
	maxNames   = 6 // of a program's relations
	maxThings  = 6 // of a program
)

// load reads a program, or tells the first error of it with its place.
func load(program string) ([]syntax.Clause, Errno, int) {
	if len(program) > maxText {
		return nil, ErrLong, 0
	}
	clauses, place, ok := syntax.ReadProgram(program)
	if !ok {
		return nil, ErrForm, place
	}
	if e, place := checkClauses(clauses); e != OK {
		return nil, e, place
	}
	if place, found := findLoop(clauses); found {
		return nil, ErrStrata, place
	}
	return clauses, OK, 0
}

// checkClauses tells the error of the first clause that has one: a later
// clause's error does not count, though it be named ahead.
func checkClauses(clauses []syntax.Clause) (Errno, int) {
	var seen census
	for _, clause := range clauses {
		seen.count(clause)
		if seen.isTooMany() || isTooGreat(clause) {
			return ErrMany, clause.Head.Place
		}
		if place, found := findArity(clause.Atoms(), clauses); found {
			return ErrArity, place
		}
		if place, found := findUnsafe(clause); found {
			return ErrUnsafe, place
		}
	}
	return OK, 0
}

// census is what the clauses up to one have used.
type census struct {
	clauses int
	names   []string      // rising
	things  []facts.Thing // rising
}

// count takes a clause in.
func (c *census) count(clause syntax.Clause) {
	c.clauses++
	c.names = addNames(c.names, clause)
	c.things = addThings(c.things, clause)
}

func (c *census) isTooMany() bool {
	return c.clauses > maxClauses || len(c.names) > maxNames || len(c.things) > maxThings
}

// isTooGreat tells whether the clause by itself is above a limit.
func isTooGreat(clause syntax.Clause) bool {
	for _, atom := range clause.Atoms() {
		if len(atom.Terms) > maxArgs {
			return true
		}
	}
	return len(clause.Body) > maxBody
}

// findArity tells the place of the first atom that has too many arguments, or
// another number than the first one of its name in the program.
func findArity(atoms []syntax.Atom, program []syntax.Clause) (int, bool) {
	for _, atom := range atoms {
		args, found := arityOf(atom.Name, program)
		if len(atom.Terms) > maxArgs || found && len(atom.Terms) != args {
			return atom.Place, true
		}
	}
	return 0, false
}

// arityOf tells with how many arguments a relation stands first in a program,
// if it does.
func arityOf(name string, program []syntax.Clause) (int, bool) {
	for _, clause := range program {
		for _, atom := range clause.Atoms() {
			if atom.Name == name {
				return len(atom.Terms), true
			}
		}
	}
	return 0, false
}

// findUnsafe tells the place of the head, or of the first literal, that has a
// VARIABLE which nothing binds.
func findUnsafe(clause syntax.Clause) (int, bool) {
	if isLoose(clause.Head.Terms, clause.Body) {
		return clause.Head.Place, true
	}
	return findUnsafeLiteral(clause.Body)
}

// findUnsafeLiteral is findUnsafe where there is no head.
func findUnsafeLiteral(body syntax.Body) (int, bool) {
	for _, literal := range body {
		if isLoose(literal.Terms(), body) {
			return literal.Place, true
		}
	}
	return 0, false
}

// isLoose tells whether one of the terms is a VARIABLE that stands in no atom
// of the body without `!`.
func isLoose(terms []syntax.Term, body syntax.Body) bool {
	var binding []syntax.Term
	for _, literal := range body {
		if literal.Sort == syntax.Present {
			binding = append(binding, literal.Atom.Terms...)
		}
	}
	return len(rising.Without(variables(terms), variables(binding))) > 0
}

// variables answers the VARIABLEs among the terms, rising.
func variables(terms []syntax.Term) []rune {
	var letters []rune
	for _, term := range terms {
		if term.Variable != 0 {
			letters = rising.Add(letters, term.Variable)
		}
	}
	return letters
}

// findLoop tells the place of the first literal with `!` whose relation leans
// on that of its clause's head.
func findLoop(clauses []syntax.Clause) (int, bool) {
	for _, clause := range clauses {
		for _, literal := range clause.Body {
			if literal.Sort != syntax.Absent {
				continue
			}
			if rising.Has(leaning(clauses, literal.Atom.Name), clause.Head.Name) {
				return literal.Place, true
			}
		}
	}
	return 0, false
}

// leaning answers, rising, the relations on which the named one leans. It ends
// since there are but so many names for the list to grow by.
func leaning(clauses []syntax.Clause, name string) []string {
	names := []string{name}
	for {
		before := len(names)
		for _, clause := range clauses {
			if rising.Has(names, clause.Head.Name) {
				names = addNames(names, clause)
			}
		}
		if len(names) == before {
			return names
		}
	}
}

// addNames adds the names of the clause's relations to a rising list.
func addNames(names []string, clause syntax.Clause) []string {
	for _, atom := range clause.Atoms() {
		names = rising.Add(names, atom.Name)
	}
	return names
}

// addThings adds the things of the clause to a rising list.
func addThings(things []facts.Thing, clause syntax.Clause) []facts.Thing {
	for _, term := range clause.Terms() {
		if term.Variable == 0 {
			things = rising.Add(things, term.Thing)
		}
	}
	return things
}
