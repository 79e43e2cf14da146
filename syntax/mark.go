package syntax

const (
	maxWord   = 4 // letters of a word
	maxDigits = 3 // digits of a number
)

// kind says what a mark is.
type kind int

const (
	nothing  kind = iota // a rune or a row that stands in no program
	end                  // behind the last rune
	word                 // a row of letters a to z
	number               // a row of digits
	variable             // one letter A to Z
	sign
)

// mark is a piece of a text, between which blanks may stand.
type mark struct {
	kind  kind
	place int // of its first byte
	text  string
}

// cut parts a text into its marks, and an end. What stands in no program
// becomes a mark too: whether the text breaks off there, or ahead of it, is
// known only to the one who reads the marks in turn.
func cut(text string) []mark {
	var marks []mark
	for place, letter := range text {
		marks = lay(marks, place, letter)
	}
	for i := range marks {
		if !isWhole(marks[i]) {
			marks[i].kind = nothing
		}
	}
	return append(marks, mark{kind: end, place: len(text)})
}

// lay adds a rune to the marks: to the last one, if it goes on with it.
func lay(marks []mark, place int, letter rune) []mark {
	if letter == ' ' || letter == '\n' {
		return marks
	}
	last := len(marks) - 1
	if last >= 0 && goesOn(marks[last], place, letter) {
		marks[last].text += string(letter)
		return marks
	}
	return append(marks, mark{kind: kindOf(letter), place: place, text: string(letter)})
}

// goesOn tells whether a rune belongs to the mark ahead of it.
func goesOn(last mark, place int, letter rune) bool {
	if last.place+len(last.text) != place {
		return false
	}
	switch last.kind {
	case word, number:
		return kindOf(letter) == last.kind
	case sign:
		return last.text == ":" && letter == '-'
	}
	return false
}

// kindOf tells the kind of the mark that a rune begins.
func kindOf(letter rune) kind {
	switch {
	case 'a' <= letter && letter <= 'z':
		return word
	case '0' <= letter && letter <= '9':
		return number
	case 'A' <= letter && letter <= 'Z':
		return variable
	}
	switch letter {
	case ':', '.', ',', '!', '=', '#', '<', '(', ')':
		return sign
	}
	return nothing
}

// isWhole tells whether a row is as the grammar asks; other marks always are.
func isWhole(m mark) bool {
	switch m.kind {
	case word:
		return len(m.text) <= maxWord
	case number:
		return len(m.text) == 1 || len(m.text) <= maxDigits && m.text[0] != '0'
	}
	return true
}
