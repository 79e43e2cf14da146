// Package facts keeps things, facts and sets of facts in their order.
package facts

import (
	"cmp"
	"iter"
	"slices"
	"strings"
)

// Fact says that a relation holds of things.
type Fact struct {
	Name   string
	Things []Thing
}

// String answers the fact as it is written.
func (f Fact) String() string {
	var text strings.Builder
	text.WriteString(f.Name)
	for i, thing := range f.Things {
		if i == 0 {
			text.WriteByte('(')
		} else {
			text.WriteByte(',')
		}
		text.WriteString(thing.String())
	}
	text.WriteString(").")
	return text.String()
}

// compare orders facts by their names, then by their things in turn.
func compare(a, b Fact) int {
	if byName := cmp.Compare(a.Name, b.Name); byName != 0 {
		return byName
	}
	return slices.Compare(a.Things, b.Things)
}

// Set is a set of facts. Its zero value is empty.
type Set struct {
	list []Fact // in order
}

// Has tells whether a fact is in the set.
func (s *Set) Has(fact Fact) bool {
	_, found := slices.BinarySearchFunc(s.list, fact, compare)
	return found
}

// Add takes a fact in.
func (s *Set) Add(fact Fact) {
	at, found := slices.BinarySearchFunc(s.list, fact, compare)
	if !found {
		s.list = slices.Insert(s.list, at, fact)
	}
}

// Remove takes a fact out.
func (s *Set) Remove(fact Fact) {
	at, found := slices.BinarySearchFunc(s.list, fact, compare)
	if found {
		s.list = slices.Delete(s.list, at, at+1)
	}
}

// All goes through the facts, in order.
func (s *Set) All() iter.Seq[Fact] {
	return slices.Values(s.list)
}

// Of goes through the facts of a relation, in order.
func (s *Set) Of(name string) iter.Seq[Fact] {
	return func(yield func(Fact) bool) {
		// Without things, this one stands ahead of all of its name.
		at, _ := slices.BinarySearchFunc(s.list, Fact{Name: name}, compare)
		for _, fact := range s.list[at:] {
			if fact.Name != name || !yield(fact) {
				return
			}
		}
	}
}

// String answers the facts as they are written, in order, a newline behind
// each.
func (s *Set) String() string {
	var text strings.Builder
	for _, fact := range s.list {
		text.WriteString(fact.String())
		text.WriteByte('\n')
	}
	return text.String()
}
