package augur

import (
	"strconv"
	"strings"

	"augur/facts"
	"augur/infer"
	"augur/syntax"
)

// loadFact reads a fact as it is written, and tells whether the text is one
// that keeps to the limits.
func loadFact(text string) (facts.Fact, bool) {
	if len(text) > maxText {
		return facts.Fact{}, false
	}
	fact, ok := syntax.ReadFact(text)
	if !ok || len(fact.Things) > maxArgs {
		return facts.Fact{}, false
	}
	return fact, true
}

// reason tells the steps to a fact, a line for each: nothing, if it does not
// follow.
func reason(program []syntax.Clause, fact facts.Fact) string {
	var text strings.Builder
	for _, step := range infer.Why(program, fact) {
		text.WriteString(step.Fact.String())
		text.WriteByte(' ')
		text.WriteString(strconv.Itoa(step.Clause))
		text.WriteByte('\n')
	}
	return text.String()
}
