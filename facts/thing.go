package facts

// Thing is a word, or a NUMBER with zeros ahead up to three digits. So things
// are ordered as their texts are: a digit stands ahead of every letter, and of
// two NUMBERs of one length the lesser one stands ahead.
type Thing string

const digits = 3

// ThingOf answers the thing that is written so.
func ThingOf(text string) Thing {
	if isNumber(text) {
		for len(text) < digits {
			text = "0" + text
		}
	}
	return Thing(text)
}

// String answers the thing as it is written.
func (t Thing) String() string {
	text := string(t)
	if isNumber(text) {
		for len(text) > 1 && text[0] == '0' {
			text = text[1:]
		}
	}
	return text
}

// isNumber tells whether a word or a NUMBER is the latter.
func isNumber(text string) bool {
	return text < "a"
}
