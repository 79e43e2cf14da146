// Package augur tells what follows from rules: see DOC.md.
package augur

import (
	"augur/facts"
	"augur/infer"
	"augur/syntax"
)

// Errno is what a call answers: OK or the reason for a refusal.
type Errno int

const (
	OK        Errno = 0
	ErrLong   Errno = 1 // above a bound
	ErrForm   Errno = 2 // no program, question, or fact
	ErrMany   Errno = 3 // too many clauses, literals, arguments, names or things
	ErrArity  Errno = 4 // another number of arguments
	ErrUnsafe Errno = 5 // a variable that nothing binds
	ErrStrata Errno = 6 // a relation that leans on its own absence
	ErrNone   Errno = 7 // a fact or thing that is not there
	ErrThere  Errno = 8 // a fact that is there already
)

// Check tells whether a text is a program (P3).
func Check(program string) (Errno, int) {
	_, e, place := load(program)
	return e, place
}

// Follow tells all that follows (P4, P5).
func Follow(program string) (string, Errno, int) {
	clauses, e, place := load(program)
	if e != OK {
		return "", e, place
	}
	return infer.Follow(clauses).String(), OK, 0
}

// Ask answers a question (P6).
func Ask(program string, question string) (string, Errno, int) {
	clauses, e, place := load(program)
	if e != OK {
		return "", e, place
	}
	body, e, place := loadQuestion(question, clauses)
	if e != OK {
		return "", e, place
	}
	return answers(clauses, body), OK, 0
}

// Why tells a reason for a fact (P7).
func Why(program string, fact string) (string, Errno, int) {
	clauses, e, place := load(program)
	if e != OK {
		return "", e, place
	}
	sought, ok := loadFact(fact)
	if !ok {
		return "", ErrForm, 0
	}
	lines := reason(clauses, sought)
	if lines == "" {
		return "", ErrNone, 0
	}
	return lines, OK, 0
}

// Base is a program and facts beside it. Make it by Start.
type Base struct {
	program []syntax.Clause
	beside  facts.Set
}

// Start makes a base (P8).
func Start(program string) (*Base, Errno, int) {
	clauses, e, place := load(program)
	if e != OK {
		return nil, e, place
	}
	return &Base{program: clauses}, OK, 0
}

// Insert lays a fact beside the program (P8).
func (b *Base) Insert(fact string) Errno {
	b = b.orEmpty()
	laid, e := loadFactOf(b.program, fact)
	if e != OK {
		return e
	}
	if b.beside.Has(laid) {
		return ErrThere
	}
	b.beside.Add(laid)
	return OK
}

// Delete takes it away (P8).
func (b *Base) Delete(fact string) Errno {
	b = b.orEmpty()
	taken, e := loadFactOf(b.program, fact)
	if e != OK {
		return e
	}
	if !b.beside.Has(taken) {
		return ErrNone
	}
	b.beside.Remove(taken)
	return OK
}

// Model tells all that follows (P9).
func (b *Base) Model() string {
	b = b.orEmpty()
	return infer.Follow(withFacts(b.program, &b.beside)).String()
}
