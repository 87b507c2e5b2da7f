package console

import (
	"strings"

	"penstock/api"
	"penstock/value"
)

// Names of lines.
const (
	askLine      = "ask"
	putLine      = "put"
	stepLine     = "step"
	saveLine     = "save"
	rowsLine     = "rows"
	stateLine    = "state"
	answerLine   = "answer"
	questionLine = "question"
	armLine      = "arm"
	restartLine  = "restart"
)

// Kinds of what stands behind a line's name: a number, a value; or all that is left, blanks and all.
const (
	aNumber = 'N'
	aValue  = 'V'
	theRest = 'R'
)

// forms of lines: of each its name, and the kinds of what stands behind that.
var forms = [...]struct{ name, kinds string }{
	{askLine, "NR"},
	{putLine, "NNVVV"},
	{stepLine, "N"},
	{saveLine, ""},
	{rowsLine, ""},
	{stateLine, ""},
	{answerLine, ""},
	{questionLine, ""},
	{armLine, "N"},
	{restartLine, "N"},
}

// greatest number of a line.
const greatest = 9999

// line that was read: its name, and what stands behind it, by kinds.
type line struct {
	name     string
	numbers  []int
	values   []api.Value
	question string
}

// nameOf a line, or of what is none: its first word.
func nameOf(text string) string {
	name, _, _ := strings.Cut(text, " ")
	return name
}

// read a line that isn't too long.
func read(text string) (line, error) {
	for _, f := range forms {
		// A word too many is left in the last one, which no number, no value and no name has.
		words := strings.SplitN(text, " ", 1+len(f.kinds))
		if words[0] == f.name && len(words) == 1+len(f.kinds) {
			return readWords(f.name, f.kinds, words[1:])
		}
	}
	return line{}, api.ErrText
}

// readWords behind a line's name, one of each kind.
func readWords(name, kinds string, words []string) (line, error) {
	l := line{name: name}
	for i, word := range words {
		if err := l.add(kinds[i], word); err != nil {
			return line{}, err
		}
	}
	return l, nil
}

// add a word of a kind.
func (l *line) add(kind byte, word string) error {
	if kind == theRest {
		l.question = word
		return nil
	}
	v, err := value.Parse(word)
	if err != nil {
		return err
	}
	switch kind {
	case aNumber:
		return l.addNumber(v)
	case aValue:
		l.values = append(l.values, v)
	}
	return nil
}

// addNumber that was read as a value: both have no noughts ahead, but a line's numbers are fewer.
func (l *line) addNumber(v api.Value) error {
	if v.Kind != api.Number || v.N < 0 || v.N > greatest {
		return api.ErrText
	}
	l.numbers = append(l.numbers, v.N)
	return nil
}
