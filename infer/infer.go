// Package infer works out what follows from clauses.
package infer

import (
	"slices"

	"augur/facts"
	"augur/syntax"
)

// Step is how a fact follows.
type Step struct {
	Fact   facts.Fact
	Clause int          // the number, from 0 on, of the clause by which it does
	needs  []facts.Fact // by the atoms without `!` of that clause's body
}

// course is the way from no facts to all that follow. The clauses must keep to
// what Check asks: a relation that leans on its own absence has no layer.
type course struct {
	clauses []syntax.Clause
	known   facts.Set
	steps   []Step // one for each fact, behind those of all that it needs
}

// Follow answers all that follows from the clauses.
func Follow(clauses []syntax.Clause) *facts.Set {
	return &goThrough(clauses).known
}

// Why answers the steps to a fact that are needed, in their order: none, if it
// does not follow.
func Why(clauses []syntax.Clause, fact facts.Fact) []Step {
	var needed facts.Set
	needed.Add(fact)
	var reason []Step
	// What a step needs stands ahead of it, and so is yet to come.
	for _, step := range slices.Backward(goThrough(clauses).steps) {
		if !needed.Has(step.Fact) {
			continue
		}
		reason = append(reason, step)
		for _, need := range step.needs {
			needed.Add(need)
		}
	}
	slices.Reverse(reason)
	return reason
}

func goThrough(clauses []syntax.Clause) *course {
	c := &course{clauses: clauses}
	for _, layer := range layers(clauses) {
		for c.grow(layer) {
		}
	}
	return c
}

// grow adds what follows by one round through a layer's clauses, and tells
// whether that is anything.
func (c *course) grow(layer []int) bool {
	before := len(c.steps)
	for _, number := range layer {
		for _, step := range c.newSteps(number) {
			c.known.Add(step.Fact)
			c.steps = append(c.steps, step)
		}
	}
	return len(c.steps) > before
}

// newSteps answers the steps by a clause to facts that are not known. The
// VARIABLEs of the head are bound first: for a head that is known the rest of
// the body need not be looked at, and for another one only till it holds once.
func (c *course) newSteps(number int) []Step {
	clause := c.clauses[number]
	s := &search{known: &c.known, body: clause.Body, order: variables(clause.Terms())}
	ofHead := len(variables(clause.Head.Terms))
	var steps []Step
	for bound := range s.between(0, ofHead, binding{}) {
		head := bound.fact(clause.Head)
		if c.known.Has(head) {
			continue
		}
		if whole, found := s.first(ofHead, len(s.order), bound); found {
			steps = append(steps, Step{head, number, whole.needs(clause.Body)})
		}
	}
	return steps
}

// variables answers the VARIABLEs among the terms, as they come first.
func variables(terms []syntax.Term) []rune {
	var order []rune
	for _, term := range terms {
		if term.Variable != 0 && !slices.Contains(order, term.Variable) {
			order = append(order, term.Variable)
		}
	}
	return order
}
