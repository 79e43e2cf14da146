// Package syntax reads texts of clauses into trees.
package syntax

import (
	"slices"

	"augur/facts"
)

// Term is a VARIABLE or a thing.
type Term struct {
	Variable rune        // 0, if the term is a thing
	Thing    facts.Thing // empty, if the term is a VARIABLE
}

// Atom is a relation's name with its arguments.
type Atom struct {
	Place int // of its first byte
	Name  string
	Terms []Term
}

// Sort says what a literal asks for.
type Sort int

const (
	Present Sort = iota // the atom is a fact
	Absent              // the atom is none
	Same                // both terms are the same
	Other               // they are not
	Ahead               // the left one stands ahead of the right one
)

// Literal is one condition of a body: over its atom, if its sort is Present or
// Absent, else over its left and its right term.
type Literal struct {
	Place       int // of its first byte
	Sort        Sort
	Atom        Atom
	Left, Right Term
}

// HasAtom tells whether the literal is over an atom, with `!` ahead or not.
func (l Literal) HasAtom() bool {
	return l.Sort == Present || l.Sort == Absent
}

// Terms answers the terms of the literal, in their order.
func (l Literal) Terms() []Term {
	if l.HasAtom() {
		return l.Atom.Terms
	}
	return []Term{l.Left, l.Right}
}

// Body is the literals that must all hold.
type Body []Literal

// Atoms answers the atoms of the body, with `!` ahead or not, in their order.
func (b Body) Atoms() []Atom {
	var atoms []Atom
	for _, literal := range b {
		if literal.HasAtom() {
			atoms = append(atoms, literal.Atom)
		}
	}
	return atoms
}

// Terms answers the terms of the body, in their order.
func (b Body) Terms() []Term {
	var terms []Term
	for _, literal := range b {
		terms = append(terms, literal.Terms()...)
	}
	return terms
}

// Clause is a head and what it hangs on. Its first byte is the head's.
type Clause struct {
	Head Atom
	Body Body
}

// ClauseOf answers the clause that a fact is. It stands in no text: its place
// is 0.
func ClauseOf(fact facts.Fact) Clause {
	head := Atom{Name: fact.Name}
	for _, thing := range fact.Things {
		head.Terms = append(head.Terms, Term{Thing: thing})
	}
	return Clause{Head: head}
}

// Atoms answers the head and the atoms of the body, in their order.
func (c Clause) Atoms() []Atom {
	return append([]Atom{c.Head}, c.Body.Atoms()...)
}

// Terms answers the terms of the head and of the body, in their order.
func (c Clause) Terms() []Term {
	return slices.Concat(c.Head.Terms, c.Body.Terms())
}
