package infer

import (
	"iter"
	"slices"

	"augur/facts"
	"augur/rising"
	"augur/syntax"
)

// search looks for what the VARIABLEs of a body can be, so that it holds in
// what is known. It binds them one by one, in its order.
type search struct {
	known *facts.Set
	body  syntax.Body
	order []rune
}

// between goes through all that the VARIABLEs of the order from one place up
// to another can be, beside those that are bound, so that no literal fails of
// which nothing is open. They come by the first one's thing, then by the
// second one's, and so on.
func (s *search) between(from, to int, bound binding) iter.Seq[binding] {
	return func(yield func(binding) bool) {
		if s.fails(bound) {
			return
		}
		if from == to {
			yield(bound)
			return
		}
		variable := s.order[from]
		for _, thing := range s.allowed(variable, bound) {
			for further := range s.between(from+1, to, bound.with(variable, thing)) {
				if !yield(further) {
					return
				}
			}
		}
	}
}

// first answers the first one that between goes through, if there is any.
func (s *search) first(from, to int, bound binding) (binding, bool) {
	for further := range s.between(from, to, bound) {
		return further, true
	}
	return binding{}, false
}

// fails tells whether a literal of which nothing is open does not hold.
func (s *search) fails(bound binding) bool {
	for _, literal := range s.body {
		if bound.settles(literal.Terms()) && !s.holds(literal, bound) {
			return true
		}
	}
	return false
}

// holds tells whether a literal does, of which nothing is open.
func (s *search) holds(literal syntax.Literal, bound binding) bool {
	left, right := bound.thing(literal.Left), bound.thing(literal.Right)
	switch literal.Sort {
	case syntax.Present:
		return s.known.Has(bound.fact(literal.Atom))
	case syntax.Absent:
		return !s.known.Has(bound.fact(literal.Atom))
	case syntax.Same:
		return left == right
	case syntax.Other:
		return left != right
	default:
		return left < right
	}
}

// allowed answers, rising, the things that each atom without `!` allows a
// VARIABLE to be.
func (s *search) allowed(variable rune, bound binding) []facts.Thing {
	var lists [][]facts.Thing
	for _, literal := range s.body {
		if literal.Sort != syntax.Present {
			continue
		}
		at := slices.Index(literal.Atom.Terms, syntax.Term{Variable: variable})
		if at >= 0 {
			lists = append(lists, s.column(literal.Atom, at, bound))
		}
	}
	return rising.Common(lists...)
}

// column answers, rising, the things that stand at a place of the facts that
// fit the atom.
func (s *search) column(atom syntax.Atom, at int, bound binding) []facts.Thing {
	var things []facts.Thing
	for fact := range s.known.Of(atom.Name) {
		if bound.fits(atom, fact) {
			things = rising.Add(things, fact.Things[at])
		}
	}
	return things
}
