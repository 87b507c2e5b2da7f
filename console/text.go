package console

import (
	"strconv"
	"strings"

	"penstock/api"
	"penstock/stream"
	"penstock/value"
)

const (
	ok      = "ok"
	nothing = "-" // a list without items
)

// outcome of a line: its answer, or the number of what is wrong.
func outcome(answer string, err error) string {
	if n, is := err.(api.Errno); is {
		return "error " + numbers(int(n))
	}
	return answer
}

// numbers, with blanks between.
func numbers(l ...int) string {
	words := make([]string, len(l))
	for i, n := range l {
		words[i] = strconv.Itoa(n)
	}
	return strings.Join(words, " ")
}

// list of items, by the text of each.
func list[Item any](l []Item, text func(Item) string) string {
	if len(l) == 0 {
		return nothing
	}
	texts := make([]string, len(l))
	for i, item := range l {
		texts[i] = text(item)
	}
	return strings.Join(texts, "; ")
}

func paneText(p api.Pane) string {
	s := numbers(p.Start) + " " + value.Text(p.Key)
	for _, v := range p.Vals {
		s += " " + value.Text(v)
	}
	return s
}

func rowText(r api.Row) string {
	if r.Gone {
		return "- " + paneText(r.Pane)
	}
	return "+ " + paneText(r.Pane)
}

func answerText(l []api.Pane, late int) string {
	return list(l, paneText) + " late " + numbers(late)
}

func stateText(t *stream.Stream) string {
	upto := "none"
	if at, known := t.Upto(); known {
		upto = numbers(at)
	}
	return numbers(t.Read()...) + " upto " + upto + " late " + numbers(t.Late()) +
		" kept " + numbers(t.Kept()) + " waiting " + numbers(t.Waiting())
}
