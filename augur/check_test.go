package augur_test

import (
	"strings"
	"testing"

	"augur/augur"
)

// checkCase is a program and what Check answers of it.
type checkCase struct {
	program string
	e       augur.Errno
	place   int
}

var checkCases = []checkCase{
	// Programs.
	{"", augur.OK, 0},
	{" \n \n", augur.OK, 0},
	{"p(a).", augur.OK, 0},
	{"p(a). q(X) :- p(X).", augur.OK, 0},
	{"e(a,b). e(b,c). p(X,Y) :- e(X,Y). p(X,Z) :- e(X,Y), p(Y,Z). r(X,Y) :- p(X,Y), !e(X,Y).", augur.OK, 0},
	{"\n p\n(\na\n,\n0\n)\n:-\nq\n(\nX\n)\n,\n!\nr\n(\nX\n)\n,\nX\n<\n10\n.\n", augur.OK, 0},
	{"abcd(abcd,999):-q(Z),Z=a,Z#0.", augur.OK, 0},
	{"p(a):-a=b.p(b):-1#X,q(X).", augur.OK, 0},

	// ErrForm: a row that is none, or too long.
	{"abcde(a).", augur.ErrForm, 0},
	{" abcdefgh(a).", augur.ErrForm, 1},
	{"p(a,abcde).", augur.ErrForm, 4},
	{"p(abcde", augur.ErrForm, 2},
	{"p(a) :- abcde", augur.ErrForm, 8},
	{"p(a) :- !abcde(a).", augur.ErrForm, 9},
	{"p(a)abcde.", augur.ErrForm, 4},
	{"p(00).", augur.ErrForm, 2},
	{"p(01).", augur.ErrForm, 2},
	{"p(007).", augur.ErrForm, 2},
	{"p(1000).", augur.ErrForm, 2},
	{"p(a) :- X < 1000", augur.ErrForm, 12},
	{"p(100 0).", augur.ErrForm, 6},
	{"p(ab cd).", augur.ErrForm, 5},
	{"p(0 0).", augur.ErrForm, 4},

	// ErrForm: a byte that cannot stand there.
	{".", augur.ErrForm, 0},
	{"  )", augur.ErrForm, 2},
	{"P(a).", augur.ErrForm, 0},
	{"1(a).", augur.ErrForm, 0},
	{"!p(a).", augur.ErrForm, 0},
	{"p().", augur.ErrForm, 2},
	{"p(,a).", augur.ErrForm, 2},
	{"p(a,).", augur.ErrForm, 4},
	{"p(a b).", augur.ErrForm, 4},
	{"p(XY).", augur.ErrForm, 3},
	{"p(aX).", augur.ErrForm, 3},
	{"p(a1).", augur.ErrForm, 3},
	{"p(1a).", augur.ErrForm, 3},
	{"p1(a).", augur.ErrForm, 1},
	{"p(q(a)).", augur.ErrForm, 3},
	{"p(!a).", augur.ErrForm, 2},
	{"p.", augur.ErrForm, 1},
	{"p(a)..", augur.ErrForm, 5},
	{"p(a), q(a).", augur.ErrForm, 4},
	{"p(a) q(a).", augur.ErrForm, 5},
	{"p(a) = b.", augur.ErrForm, 5},
	{"p(a) :- .", augur.ErrForm, 8},
	{"p(a) :- q(a),.", augur.ErrForm, 13},
	{"p(a) :- q(a) r(a).", augur.ErrForm, 13},
	{"p(a) :- q(a) :- r(a).", augur.ErrForm, 13},
	{"p(a) :- q(a) = b.", augur.ErrForm, 13},
	{"p(a) :- a.", augur.ErrForm, 9},
	{"p(a) :- X.", augur.ErrForm, 9},
	{"p(a) :- X(a).", augur.ErrForm, 9},
	{"p(a) :- 1(a).", augur.ErrForm, 9},
	{"p(a) :- !X = a.", augur.ErrForm, 9},
	{"p(a) :- !a = b.", augur.ErrForm, 11},
	{"p(a) :- !!q(a).", augur.ErrForm, 9},
	{"p(a) :- (q(a)).", augur.ErrForm, 8},
	{"p(a) :- a == b.", augur.ErrForm, 11},
	{"p(a) :- a > b.", augur.ErrForm, 10},
	{"p(a) :- a = b = c.", augur.ErrForm, 14},
	{"p(a) :- a = q(a).", augur.ErrForm, 13},
	{"p(a) :- = b.", augur.ErrForm, 8},

	// ErrForm: bytes that are no letters.
	{"p(a).\t", augur.ErrForm, 5},
	{"p(a).\r\n", augur.ErrForm, 5},
	{"\x00", augur.ErrForm, 0},
	{"p(\x00).", augur.ErrForm, 2},
	{"p(\xff).", augur.ErrForm, 2},
	{"p(a\xc3", augur.ErrForm, 3},
	{"p(é).", augur.ErrForm, 2},
	{"p(aé).", augur.ErrForm, 3},
	{"é p(a).", augur.ErrForm, 0},
	{"p(a).\u00a0", augur.ErrForm, 5},
	{"p(a) :\u2010 q(a).", augur.ErrForm, 6},
	{"p(_).", augur.ErrForm, 2},
	{"p(-1).", augur.ErrForm, 2},
	{"p({).", augur.ErrForm, 2},
	{"p(`).", augur.ErrForm, 2},
	{"p(@).", augur.ErrForm, 2},
	{"p([).", augur.ErrForm, 2},
	{"p(/).", augur.ErrForm, 2},

	// ErrForm: what stands behind `:`.
	{"p(a) : - q(a).", augur.ErrForm, 6},
	{"p(a) :\n- q(a).", augur.ErrForm, 6},
	{"p(a):q(a).", augur.ErrForm, 5},
	{"p(a) ::- q(a).", augur.ErrForm, 6},
	{"p(a) :", augur.ErrForm, 6},
	{"p(a) :   ", augur.ErrForm, 6},
	{"p(a) :-- q(a).", augur.ErrForm, 7},
	{"p(a) - q(a).", augur.ErrForm, 5},
	{"p(a : b).", augur.ErrForm, 4},
	{": p(a).", augur.ErrForm, 0},
	{"p(a) :- q(a) : r(a).", augur.ErrForm, 13},

	// ErrForm: a text that ends too early.
	{"p", augur.ErrForm, 1},
	{"p  ", augur.ErrForm, 3},
	{"p(", augur.ErrForm, 2},
	{"p(a", augur.ErrForm, 3},
	{"p(a,", augur.ErrForm, 4},
	{"p(a)", augur.ErrForm, 4},
	{"p(a) \n ", augur.ErrForm, 7},
	{"p(a) :-", augur.ErrForm, 7},
	{"p(a) :- q", augur.ErrForm, 9},
	{"p(a) :- !", augur.ErrForm, 9},
	{"p(a) :- !q", augur.ErrForm, 10},
	{"p(a) :- q(a)", augur.ErrForm, 12},
	{"p(a) :- q(a),", augur.ErrForm, 13},
	{"p(a) :- X", augur.ErrForm, 9},
	{"p(a) :- X <", augur.ErrForm, 11},
	{"p(a) :- X < 0", augur.ErrForm, 13},
	{"p(a). q", augur.ErrForm, 7},

	// ErrMany: arguments, literals.
	{"p(a,b).", augur.OK, 0},
	{"p(a,b,c).", augur.ErrMany, 0},
	{"\n p(a,a,a).", augur.ErrMany, 2},
	{"p(a). q(a) :- r(a,a,a).", augur.ErrMany, 6},
	{"p(a). q(a) :- p(a), !r(a,a,a).", augur.ErrMany, 6},
	{"p(a) :- q(a), !r(a), a = a.", augur.OK, 0},
	{"p(a) :- q(a), !r(a), a = a, a # b.", augur.ErrMany, 0},
	{"p(a). p(a) :- a = a, a = a, a = a, a = a.", augur.ErrMany, 6},

	// ErrMany: names, of heads and of bodies, with `!` and without.
	{"a(a) :- b(a), !c(a). d(a) :- e(a), !f(a), a(a).", augur.OK, 0},
	{"a(a) :- b(a), !c(a). d(a) :- e(a), !f(a), g(a).", augur.ErrMany, 21},
	{"a(a) :- b(a), c(a). d(a) :- e(a), f(a). p(a) :- a(a). q(a).", augur.ErrMany, 40},
	{"a(a) :- b(a), c(a). d(a) :- e(a), f(a). a(a) :- !p(a).", augur.ErrMany, 40},
	{"a(a). a(b). aa(a). ab(a). b(a). ba(a). bb(a).", augur.OK, 0},

	// ErrMany: things, words and NUMBERs, of atoms and of the other literals.
	{"p(a,b) :- q(c,0), 1 < 10.", augur.OK, 0},
	{"p(a,b) :- q(c,0), 1 < 10, X = 100, q(X,X).", augur.ErrMany, 0},
	{"p(a,b) :- q(c,0), 1 < 10, X = 100.", augur.ErrMany, 0},
	{"p(a,b) :- q(c,0), 1 < 10. p(d,d).", augur.ErrMany, 26},
	{"p(a,b) :- q(c,0), 1 < 10. p(a,a) :- !q(a,2).", augur.ErrMany, 26},
	{"p(a,b) :- q(c,0), 1 < 10. p(a,a) :- 1 # d. p(e,e).", augur.ErrMany, 26},
	{"a(b,a). b(c,d). c(e,f). d(a,b) :- a(X,Y), b(Y,X).", augur.OK, 0},

	// ErrArity.
	{"p(a). p(a,b).", augur.ErrArity, 6},
	{"p(a,b). p(a).", augur.ErrArity, 8},
	{"p(a) :- p(a,b).", augur.ErrArity, 8},
	{"p(a) :- !p(a,b).", augur.ErrArity, 9},
	{"p(a) :- ! p(a,b).", augur.ErrArity, 10},
	{"p(a) :- q(a), q(a,b).", augur.ErrArity, 14},
	{"p(a) :- q(a). q(a,b).", augur.ErrArity, 14},
	{"p(a) :- q(a,b), p(a,b), q(a).", augur.ErrArity, 16},
	{"p(p,q). q(p). p(q,q).", augur.OK, 0},

	// ErrUnsafe.
	{"p(X).", augur.ErrUnsafe, 0},
	{" p(a,X).", augur.ErrUnsafe, 1},
	{"p(X) :- q(Y).", augur.ErrUnsafe, 0},
	{"p(X) :- !q(X).", augur.ErrUnsafe, 0},
	{"p(X) :- X = a.", augur.ErrUnsafe, 0},
	{"p(X) :- !q(Y), r(Y), X = Y.", augur.ErrUnsafe, 0},
	{"p(Y) :- X < a, q(X).", augur.ErrUnsafe, 0},
	{"p(X) :- Y < Z, q(X).", augur.ErrUnsafe, 8},
	{"p(Y) :- Z < a, q(a).", augur.ErrUnsafe, 0},
	{"p(a) :- X # a.", augur.ErrUnsafe, 8},
	{"p(a) :- a # X.", augur.ErrUnsafe, 8},
	{"p(a) :- !q(X).", augur.ErrUnsafe, 8},
	{"p(a) :- ! q(X).", augur.ErrUnsafe, 8},
	{"p(a) :- q(X), X < Y.", augur.ErrUnsafe, 14},
	{"p(a) :- q(X), !r(X,Y), Y = Z.", augur.ErrUnsafe, 14},
	{"p(a) :- q(X), Z = X, !r(Y).", augur.ErrUnsafe, 14},
	{"p(X) :- q(X). p(X) :- q(a).", augur.ErrUnsafe, 14},
	{"p(X) :- q(X). p(a) :- !q(X).", augur.ErrUnsafe, 22},
	{"p(X,Y) :- !q(X), r(X,Y).", augur.OK, 0},
	{"p(X) :- X < Y, Y = X, q(X,Y).", augur.OK, 0},
	{"p(X) :- p(X).", augur.OK, 0},

	// ErrStrata.
	{"p(a) :- !p(a).", augur.ErrStrata, 8},
	{"p(a) :- ! p(a).", augur.ErrStrata, 8},
	{"p(X) :- q(X), !p(X).", augur.ErrStrata, 14},
	{"p(a) :- !q(a). q(a) :- p(a).", augur.ErrStrata, 8},
	{"q(a) :- p(a). p(a) :- !q(a).", augur.ErrStrata, 22},
	{"p(a) :- !q(a). q(a) :- !p(a).", augur.ErrStrata, 8},
	{"p(a) :- !q(a). q(a) :- r(a). r(a) :- !s(a). s(a) :- p(a).", augur.ErrStrata, 8},
	{"p(a) :- q(a). q(a) :- r(a). r(a) :- !s(a). s(a) :- p(a).", augur.ErrStrata, 36},
	{"p(a) :- !s(a). r(a) :- p(a). q(a) :- r(a). s(a) :- q(a).", augur.ErrStrata, 8},
	{"p(a) :- !r(a), !q(a). q(a) :- a = a, p(a).", augur.ErrStrata, 15},
	{"t(a) :- !p(a). p(a) :- !q(a). q(a) :- t(a), p(a).", augur.ErrStrata, 8},
	{"t(a) :- !p(a). p(a) :- !q(a). q(a) :- p(a).", augur.ErrStrata, 23},
	{"p(a) :- p(a), q(a). q(a) :- p(a), !r(a). s(a) :- !p(a), !q(a).", augur.OK, 0},
	{"p(a) :- !q(a). q(a) :- !r(a). r(a) :- !s(a). p(a) :- r(a).", augur.OK, 0},
	{"p(a) :- !q(a). q(p).", augur.OK, 0},

	// Several errors: a text's form stands ahead of all the clauses.
	{"p(a,b,c). p(X). p(a) :- !p(a). q", augur.ErrForm, 32},
	{"p(X). p(abcde).", augur.ErrForm, 8},
	// Several errors of one clause: the one named first.
	{"p(a). p(X,Y,Z).", augur.ErrMany, 6},
	{"p(X) :- p(a,b), q(a), q(a), q(a).", augur.ErrMany, 0},
	{"p(X) :- q(a), q(a,b).", augur.ErrArity, 14},
	{"p(a). p(X,Y) :- !p(X).", augur.ErrArity, 6},
	{"p(X) :- !p(X).", augur.ErrUnsafe, 0},
	// Errors of several clauses: the first clause's.
	{"p(X). q(a,b,c).", augur.ErrUnsafe, 0},
	{"p(X). q(a). q(a,b).", augur.ErrUnsafe, 0},
	{"p(a). p(a,b). q(a,b,c).", augur.ErrArity, 6},
	{"p(a). p(a,b). q(X).", augur.ErrArity, 6},
	{"p(a) :- !p(a). q(X).", augur.ErrUnsafe, 15},
	{"p(a) :- !p(a). q(a,b,c).", augur.ErrMany, 15},
}

func TestCheck(t *testing.T) {
	for _, c := range checkCases {
		if e, place := augur.Check(c.program); e != c.e || place != c.place {
			t.Errorf("P3: Check(%q) = %d, %d, want %d, %d", c.program, e, place, c.e, c.place)
		}
	}
}

func TestCheckCountsBytesAndClauses(t *testing.T) {
	blanks := func(n int) string { return strings.Repeat(" ", n) }
	for _, c := range []checkCase{
		{blanks(300), augur.OK, 0},
		{blanks(301), augur.ErrLong, 0},
		{blanks(299) + "p", augur.ErrForm, 300},
		{blanks(295) + "p(a).", augur.OK, 0},
		{blanks(296) + "p(a).", augur.ErrLong, 0},
		{strings.Repeat("x", 300), augur.ErrForm, 0},
		{strings.Repeat("x", 301), augur.ErrLong, 0},
		{strings.Repeat("é", 150), augur.ErrForm, 0},
		{strings.Repeat("é", 151), augur.ErrLong, 0},
		{"p(a,b,c)." + blanks(292), augur.ErrLong, 0},
		{strings.Repeat("p(a).", 12), augur.OK, 0},
		{strings.Repeat("p(a).", 13), augur.ErrMany, 60},
		{strings.Repeat("p(a). ", 13), augur.ErrMany, 72},
		{strings.Repeat("p(a).", 12) + " q(X).", augur.ErrMany, 61},
		{strings.Repeat("p(a).", 11) + "q(X). p(a).", augur.ErrUnsafe, 55},
		{strings.Repeat("p(a).", 60), augur.ErrMany, 60},
	} {
		if e, place := augur.Check(c.program); e != c.e || place != c.place {
			t.Errorf("P3: Check of %d bytes, %.20q.. = %d, %d, want %d, %d",
				len(c.program), c.program, e, place, c.e, c.place)
		}
	}
}
