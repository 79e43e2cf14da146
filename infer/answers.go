package infer

import (
	"iter"

	"augur/facts"
	"augur/syntax"
)

// Value is what a VARIABLE is.
type Value struct {
	Variable rune
	Thing    facts.Thing
}

// Answers goes through all that the VARIABLEs of a body can be, so that it
// holds in the facts. The values of each answer stand in the order in which
// their VARIABLEs come in the body; the answers come by their first things,
// then by their second ones, and so on.
func Answers(known *facts.Set, body syntax.Body) iter.Seq[[]Value] {
	s := &search{known: known, body: body, order: variables(body.Terms())}
	return func(yield func([]Value) bool) {
		for bound := range s.between(0, len(s.order), binding{}) {
			if !yield(bound.values(s.order)) {
				return
			}
		}
	}
}

// values answers what the VARIABLEs are, in their order.
func (b *binding) values(order []rune) []Value {
	values := make([]Value, len(order))
	for i, variable := range order {
		values[i] = Value{variable, b.thing(syntax.Term{Variable: variable})}
	}
	return values
}
