package augur

import (
	"strings"

	"augur/infer"
	"augur/syntax"
)

// loadQuestion reads a question of a program, or tells the first error of it
// with its place.
func loadQuestion(question string, program []syntax.Clause) (syntax.Body, Errno, int) {
	if len(question) > maxText {
		return nil, ErrLong, 0
	}
	body, place, ok := syntax.ReadBody(question)
	if !ok {
		return nil, ErrForm, place
	}
	if len(body) > maxBody {
		return nil, ErrMany, 0
	}
	if place, found := findArity(body.Atoms(), program); found {
		return nil, ErrArity, place
	}
	if place, found := findUnsafeLiteral(body); found {
		return nil, ErrUnsafe, place
	}
	return body, OK, 0
}

// answers tells all that the VARIABLEs of a question can be.
func answers(program []syntax.Clause, question syntax.Body) string {
	var text strings.Builder
	for values := range infer.Answers(infer.Follow(program), question) {
		for i, value := range values {
			if i > 0 {
				text.WriteByte(' ')
			}
			text.WriteRune(value.Variable)
			text.WriteByte('=')
			text.WriteString(value.Thing.String())
		}
		text.WriteByte('\n')
	}
	return text.String()
}
