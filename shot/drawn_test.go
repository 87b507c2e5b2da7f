package shot_test

import (
	"strconv"
	"testing"

	"penstock/api"
	"penstock/engine"
	"penstock/shot"
)

// die: numbers that look drawn, the same each time.
type die uint64

func (d *die) n(most int) int {
	*d = *d*6364136223846793005 + 1442695040888963407
	return int(uint64(*d>>33) % uint64(most))
}

func (d *die) word(words ...string) string { return words[d.n(len(words))] }

// drawnQuery: a question that may be.
func drawnQuery(t *testing.T, d *die) api.Query {
	t.Helper()
	s := ""
	for i := range 1 + d.n(4) {
		if i > 0 {
			s += ", "
		}
		s += d.word("count(*)", "count(a)", "count(a < b)", "sum(a)", "sum(a * b - k)", "min(a)", "max(b + t * 2)", "sum(a * 600000000)", "max(null)", "sum(null)",
			"min(a * 250000000)")
	}
	s += " from events " + d.word("", "", "where a > 0", "where a is not null and b < 3", "where null")
	s += " " + d.word("", "group by k", "group by k", "group by a < b", "group by k * -300000000", "group by b is null")
	size := 1 + d.n(12)
	least := (size + 3) / 4
	s += " window " + strconv.Itoa(size) + " slide " + strconv.Itoa(least+d.n(size-least+1))
	s += " delay " + strconv.Itoa(d.n(3)*d.n(6)) + " late " + strconv.Itoa(d.n(3)*d.n(15))
	return read(t, s)
}

// drawnEvents of a part; their times go on, most often.
func drawnEvents(d *die) []api.Event {
	field := func() api.Value { return []api.Value{{}, num(d.n(3)), num(d.n(9) - 4), num(d.n(2001) - 1000)}[d.n(4)] }
	var l []api.Event
	greatest := []int{d.n(9), 9000}[d.n(2)]
	for range d.n(api.MaxEvents + 1) {
		at := max(greatest+d.n(7)-d.n(2)*d.n(16), 0)
		greatest = max(greatest, at)
		l = append(l, api.Event{Time: at, K: field(), A: field(), B: field()})
	}
	return l
}

// steps of some parts, in an order that is drawn.
func steps(d *die, parts [][]api.Event, show func(part int, x api.Event)) {
	at := make([]int, len(parts))
	left := 0
	for _, l := range parts {
		left += len(l)
	}
	for left > 0 {
		part := d.n(len(parts))
		if at[part] < len(parts[part]) {
			show(part, parts[part][at[part]])
			at[part]++
			left--
		}
	}
}

// TestN1Drawn: W6, N1: at each step an engine is made anew of the text, has what the other one has, and goes on as it.
func TestN1Drawn(t *testing.T) {
	d := die(141)
	for range 80 {
		q := drawnQuery(t, &d)
		parts := make([][]api.Event, 1+d.n(3))
		for part := range parts {
			parts[part] = drawnEvents(&d)
		}
		e, f := begin(t, q, len(parts)), begin(t, q, len(parts))
		steps(&d, parts, func(part int, x api.Event) {
			e.Step(part, x)
			f.Step(part, x)
			if f = anew(t, f, q); all(e) != all(f) {
				t.Fatalf("%s\n  is not\n%s", all(f), all(e))
			}
		})
	}
}

// TestN1Same: engines that have the same, whichever way they came to it, have the same text; others have others.
func TestN1Same(t *testing.T) {
	d := die(142)
	texts, haves := map[string]string{}, map[string]string{}
	again := 0
	q := read(t, "count(*), sum(a), max(a) from events group by k window 4 slide 2 late 3")
	for range 3000 {
		e := begin(t, q, 2)
		for range d.n(6) {
			e.Step(d.n(2), api.Event{Time: d.n(5), K: num(d.n(2)), A: num(d.n(2))})
			again += note(t, e, texts, haves)
		}
	}
	if again < 100 {
		t.Errorf("only %d engines had the same", again)
	}
}

// note an engine: had another one the same?
func note(t *testing.T, e *engine.Engine, texts, haves map[string]string) int {
	t.Helper()
	have, text := all(e), shot.Text(e)
	if old, is := haves[text]; is && old != have {
		t.Fatalf("%s\n  and\n%s\n  have one text", old, have)
	}
	old, is := texts[have]
	if is && old != text {
		t.Fatalf("%s\n  has two texts", have)
	}
	texts[have], haves[text] = text, have
	if is {
		return 1
	}
	return 0
}
