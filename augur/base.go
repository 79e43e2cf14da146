package augur

import (
	"slices"

	"augur/facts"
	"augur/rising"
	"augur/syntax"
)

// orEmpty answers the base, or for nil, which Start answers beside an error,
// one of the program without clauses: no call may panic.
func (b *Base) orEmpty() *Base {
	if b == nil {
		return &Base{}
	}
	return b
}

// loadFactOf reads a fact that may stand beside a program, or tells the first
// error of it.
func loadFactOf(program []syntax.Clause, text string) (facts.Fact, Errno) {
	fact, ok := loadFact(text)
	if !ok {
		return facts.Fact{}, ErrForm
	}
	args, found := arityOf(fact.Name, program)
	if !found || len(fact.Things) != args {
		return facts.Fact{}, ErrArity
	}
	known := thingsOf(program)
	for _, thing := range fact.Things {
		if !rising.Has(known, thing) {
			return facts.Fact{}, ErrNone
		}
	}
	return fact, OK
}

// thingsOf answers, rising, the things that stand in a program.
func thingsOf(program []syntax.Clause) []facts.Thing {
	var things []facts.Thing
	for _, clause := range program {
		things = addThings(things, clause)
	}
	return things
}

// withFacts answers, as a new list, the program and behind it the facts beside
// it as further clauses.
func withFacts(program []syntax.Clause, beside *facts.Set) []syntax.Clause {
	clauses := slices.Clone(program)
	for fact := range beside.All() {
		clauses = append(clauses, syntax.ClauseOf(fact))
	}
	return clauses
}
