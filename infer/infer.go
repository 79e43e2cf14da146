// Package infer works out what follows from clauses.
package infer

import (
	"slices"

	"augur/facts"
	"augur/syntax"
)

// Follow answers all that follows from the clauses. They must keep to what
// Check asks: a relation that leans on its own absence has no layer.
func Follow(clauses []syntax.Clause) *facts.Set {
	known := &facts.Set{}
	for _, layer := range layers(clauses) {
		for grow(known, layer) {
		}
	}
	return known
}

// grow adds the heads that follow by one round through the clauses, and tells
// whether there were any.
func grow(known *facts.Set, clauses []syntax.Clause) bool {
	grown := false
	for _, clause := range clauses {
		for _, head := range newHeads(known, clause) {
			known.Add(head)
			grown = true
		}
	}
	return grown
}

// newHeads answers the heads that follow by a clause and are not known. The
// VARIABLEs of the head are bound first: for a head that is known the rest of
// the body need not be looked at, and for another one only till it holds once.
func newHeads(known *facts.Set, clause syntax.Clause) []facts.Fact {
	s := &search{known: known, body: clause.Body, order: variables(clause.Terms())}
	ofHead := len(variables(clause.Head.Terms))
	var heads []facts.Fact
	for bound := range s.between(0, ofHead, binding{}) {
		head := bound.fact(clause.Head)
		if !known.Has(head) && s.canEnd(ofHead, bound) {
			heads = append(heads, head)
		}
	}
	return heads
}

// variables answers the VARIABLEs among the terms, as they come first.
func variables(terms []syntax.Term) []rune {
	var order []rune
	for _, term := range terms {
		if term.Variable != 0 && !slices.Contains(order, term.Variable) {
			order = append(order, term.Variable)
		}
	}
	return order
}
