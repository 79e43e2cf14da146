package infer

import (
	"augur/facts"
	"augur/syntax"
)

// binding is what VARIABLEs are, each at the place of its letter: empty, where
// that is open yet.
type binding ['Z' - 'A' + 1]facts.Thing

// with answers the binding with one VARIABLE more.
func (b binding) with(variable rune, thing facts.Thing) binding {
	b[variable-'A'] = thing
	return b
}

// thing answers what a term is: empty, if that is open yet.
func (b *binding) thing(term syntax.Term) facts.Thing {
	if term.Variable == 0 {
		return term.Thing
	}
	return b[term.Variable-'A']
}

// settles tells whether no term is open.
func (b *binding) settles(terms []syntax.Term) bool {
	for _, term := range terms {
		if b.thing(term) == "" {
			return false
		}
	}
	return true
}

// fact answers what an atom says.
func (b *binding) fact(atom syntax.Atom) facts.Fact {
	things := make([]facts.Thing, len(atom.Terms))
	for i, term := range atom.Terms {
		things[i] = b.thing(term)
	}
	return facts.Fact{Name: atom.Name, Things: things}
}

// needs answers what the atoms of a body say that have no `!` ahead.
func (b *binding) needs(body syntax.Body) []facts.Fact {
	var needs []facts.Fact
	for _, literal := range body {
		if literal.Sort == syntax.Present {
			needs = append(needs, b.fact(literal.Atom))
		}
	}
	return needs
}

// fits tells whether a fact of the atom's relation is what the atom says, as
// far as it is not open.
func (b *binding) fits(atom syntax.Atom, fact facts.Fact) bool {
	for i, term := range atom.Terms {
		if thing := b.thing(term); thing != "" && thing != fact.Things[i] {
			return false
		}
	}
	return true
}
