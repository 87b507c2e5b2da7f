package engine_test

import (
	"maps"
	"slices"
	"strconv"
	"testing"

	"penstock/api"
	"penstock/batch"
	"penstock/engine"
	"penstock/fold"
	"penstock/query"
)

// die: numbers that look drawn, the same each time.
type die uint64

func (d *die) n(most int) int {
	*d = *d*6364136223846793005 + 1442695040888963407
	return int(uint64(*d>>33) % uint64(most))
}

func (d *die) word(words ...string) string { return words[d.n(len(words))] }

// drawnQuery: a question that may be.
func drawnQuery(t *testing.T, d *die) api.Query {
	t.Helper()
	s := ""
	for i := range 1 + d.n(4) {
		if i > 0 {
			s += ", "
		}
		s += d.word("count(*)", "count(a)", "count(a < b)", "sum(a)", "sum(a * b - k)", "min(a)", "max(b + t * 2)", "sum(a * 600000000)", "max(null)",
			"count(a > 0 and null)", "sum(a * 1 + (2 - 2))", "min(-(-a))")
	}
	s += " from events " + d.word("", "", "where a > 0", "where a is not null and b < 3", "where not (a = b) or k = 1", "where true and a > 0",
		"where not not a > 0 or null", "where null", "where k <> 1 or a is null")
	s += " " + d.word("", "", "group by k", "group by k", "group by a < b", "group by k * 1 + 0", "group by b is null", "group by null + k")
	size := 1 + d.n(12)
	least := (size + 3) / 4
	s += " window " + strconv.Itoa(size) + " slide " + strconv.Itoa(least+d.n(size-least+1))
	s += " delay " + strconv.Itoa(d.n(3)*d.n(6)) + " late " + strconv.Itoa(d.n(3)*d.n(15))
	return read(t, s)
}

// drawnParts: events of some parts; their times go on, most often.
func drawnParts(d *die) [][]api.Event {
	parts := make([][]api.Event, 1+d.n(3))
	field := func() api.Value { return []api.Value{{}, num(d.n(3)), num(d.n(9) - 4)}[d.n(3)] }
	for part := range parts {
		greatest := d.n(9)
		for range d.n(30) {
			at := max(greatest+d.n(7)-d.n(2)*d.n(16), 0)
			greatest = max(greatest, at)
			parts[part] = append(parts[part], api.Event{Time: at, K: field(), A: field(), B: field()})
		}
	}
	return parts
}

// runs: draws questions and events, in an order drawn, and shows each step: the engine behind it, what was read by then,
// and what the engine was ahead of it.
func runs(t *testing.T, seed, count int, show func(q api.Query, e *engine.Engine, was engine.Engine, ahead, read [][]api.Event)) {
	t.Helper()
	d := die(seed)
	for range count {
		q, parts := drawnQuery(t, &d), drawnParts(&d)
		e, err := engine.New(q, len(parts))
		if err != nil {
			t.Fatal(err)
		}
		seen := make([][]api.Event, len(parts))
		for left := total(parts); left > 0; left-- {
			part := drawnPart(&d, parts, seen)
			was := *e
			was.Read = slices.Clone(e.Read)
			ahead := slices.Clone(seen)
			e.Step(part, parts[part][len(seen[part])])
			seen[part] = parts[part][:len(seen[part])+1]
			show(q, e, was, ahead, seen)
		}
	}
}

func total(parts [][]api.Event) int {
	n := 0
	for _, l := range parts {
		n += len(l)
	}
	return n
}

// drawnPart: one that has an event that wasn't read.
func drawnPart(d *die, parts, seen [][]api.Event) int {
	for {
		if part := d.n(len(parts)); len(seen[part]) < len(parts[part]) {
			return part
		}
	}
}

// known: how far it is known of all parts of what was read, less Delay, by other means than a clock.
func known(q api.Query, read [][]api.Event) (int, bool) {
	upto := 1 << 40
	for _, l := range read {
		if len(l) == 0 {
			return 0, false
		}
		greatest := 0
		for _, x := range l {
			greatest = max(greatest, x.Time)
		}
		upto = min(upto, greatest-q.Delay)
	}
	return upto, true
}

type place struct {
	start int
	key   api.Value
}

func placeOf(p api.Pane) place { return place{p.Start, p.Key} }

// byPlace: which pane is at each place.
func byPlace(l []api.Pane) map[place]api.Pane {
	m := map[place]api.Pane{}
	for _, p := range l {
		m[placeOf(p)] = p
	}
	return m
}

// TestK2Drawn: each step, held against the answers at once of what was read ahead of it and with it.
func TestK2Drawn(t *testing.T) {
	runs(t, 21, 500, func(q api.Query, e *engine.Engine, was engine.Engine, ahead, read [][]api.Event) {
		old, _ := batch.Answer(q, ahead)
		now, late := batch.Answer(q, read)
		before, knewBefore := known(q, ahead)
		upto, knows := known(q, read)
		had := byPlace(old)
		var back, told []api.Row
		table := ""
		for _, p := range now {
			o, is := had[placeOf(p)]
			wasTold := is && knewBefore && p.Start+q.Size <= before
			isTold := knows && p.Start+q.Size <= upto
			switch {
			case wasTold && paneText(o) != paneText(p):
				back = append(back, api.Row{Gone: true, Pane: o}, api.Row{Pane: p})
			case !wasTold && isTold:
				told = append(told, api.Row{Pane: p})
			}
			if knows && p.Start+q.Size+q.Late <= upto {
				continue
			}
			if table != "" {
				table += "; "
			}
			if table += paneText(p); isTold {
				table += "!"
			}
		}
		if got, want := rowsText(e.Rows[len(was.Rows):]), rowsText(slices.Concat(back, told)); got != want {
			t.Fatalf("%v, behind %v: rows %q, wanted are %q", q, read, got, want)
		}
		if got := tableText(e); got != table {
			t.Fatalf("%v, behind %v: table %q, wanted is %q", q, read, got, table)
		}
		if e.Late != late {
			t.Fatalf("%v, behind %v: late %d, wanted is %d", q, read, e.Late, late)
		}
		for part, l := range read {
			greatest := -1
			for _, x := range l {
				greatest = max(greatest, x.Time)
			}
			if e.Read[part] != len(l) || e.Clock.Greatest[part] != greatest {
				t.Fatalf("%v, behind %v: read %v, clock %v", q, read, e.Read, e.Clock)
			}
		}
	})
}

// said: what rows say, all in all. Nothing is said twice, and only what was so is said to be gone.
func said(t *testing.T, rows []api.Row) map[place]string {
	t.Helper()
	m := map[place]string{}
	for i, r := range rows {
		at, text := placeOf(r.Pane), paneText(r.Pane)
		so, is := m[at]
		switch {
		case r.Gone && (!is || so != text):
			t.Fatalf("row %d says that %q is gone; so was %q", i, text, so)
		case !r.Gone && is:
			t.Fatalf("row %d says %q, while %q is so", i, text, so)
		case r.Gone:
			delete(m, at)
		default:
			m[at] = text
		}
	}
	return m
}

// TestW1: at each step what is said, all in all, is the answer of all that was read, of those windows that end up to
// where all is known.
func TestW1(t *testing.T) {
	rows, gone := 0, 0
	runs(t, 31, 500, func(q api.Query, e *engine.Engine, was engine.Engine, ahead, read [][]api.Event) {
		so := said(t, e.Rows)
		answer, _ := batch.Answer(q, read)
		upto, knows := known(q, read)
		for _, p := range answer {
			if !knows || p.Start+q.Size > upto {
				continue
			}
			if so[placeOf(p)] != paneText(p) {
				t.Fatalf("%v, behind %v: %q is said, %q is so", q, read, so[placeOf(p)], paneText(p))
			}
			delete(so, placeOf(p))
		}
		if len(so) > 0 {
			t.Fatalf("%v, behind %v: %v is said, but not so", q, read, so)
		}
		for _, r := range e.Rows[len(was.Rows):] {
			if rows++; r.Gone {
				gone++
			}
		}
	})
	if rows < 2000 || gone < 200 {
		t.Errorf("only %d rows were said, and %d times was something gone", rows, gone)
	}
}

// TestW2: of windows of which all is known, what was waited for, too, nothing more is said, and nothing is kept; nor are
// the rows that were said changed.
func TestW2(t *testing.T) {
	runs(t, 32, 500, func(q api.Query, e *engine.Engine, was engine.Engine, ahead, read [][]api.Event) {
		if rowsText(e.Rows[:len(was.Rows)]) != rowsText(was.Rows) {
			t.Fatalf("%v, behind %v: rows %q, they were %q", q, read, rowsText(e.Rows), rowsText(was.Rows))
		}
		if before, knew := known(q, ahead); knew {
			for _, r := range e.Rows[len(was.Rows):] {
				if r.Pane.Start+q.Size+q.Late <= before {
					t.Fatalf("%v, behind %v: %v is said, when it was known up to %d", q, read, r, before)
				}
			}
		}
		upto, knows := known(q, read)
		if !knows {
			return
		}
		for _, p := range e.Table.L {
			if p.Start+q.Size+q.Late <= upto {
				t.Fatalf("%v, behind %v: %v is kept, while it is known up to %d", q, read, p, upto)
			}
		}
	})
	// Whatever comes, of windows that are known nothing is said any more, and little is kept.
	e := begin(t, "count(*), sum(a) from events group by k window 8 slide 2 delay 3 late 5", 2)
	for at := range 9000 {
		for part := range 2 {
			e.Step(part, api.Event{Time: at, K: num(at % 2), A: num(part)})
			e.Step(part, api.Event{Time: max(at-30, 0), K: num(at % 2), A: num(part)})
		}
		if len(e.Table.L) > 2*(4+(8+3+5)/2+1) {
			t.Fatalf("at %d %d panes are kept", at, len(e.Table.L))
		}
		e.Rows = nil
	}
}

// inOrder: an engine that read all events, part by part as next says.
func inOrder(t *testing.T, q api.Query, parts [][]api.Event, next func(seen [][]api.Event) int) *engine.Engine {
	t.Helper()
	e, err := engine.New(q, len(parts))
	if err != nil {
		t.Fatal(err)
	}
	seen := make([][]api.Event, len(parts))
	for range total(parts) {
		part := next(seen)
		e.Step(part, parts[part][len(seen[part])])
		seen[part] = parts[part][:len(seen[part])+1]
	}
	return e
}

// TestW3: in which order parts are read changes nothing, all in all: not what is so in the end, not what is kept, not
// how often it is too late, which is the sum of what it is of each part alone.
func TestW3(t *testing.T) {
	d := die(33)
	for range 250 {
		q, parts := drawnQuery(t, &d), drawnParts(&d)
		late := 0
		for _, l := range parts {
			_, n := batch.Answer(q, [][]api.Event{l})
			late += n
		}
		has := func(seen [][]api.Event, part int) bool { return len(seen[part]) < len(parts[part]) }
		forth := func(seen [][]api.Event) int {
			part := 0
			for !has(seen, part) {
				part++
			}
			return part
		}
		back := func(seen [][]api.Event) int {
			part := len(parts) - 1
			for !has(seen, part) {
				part--
			}
			return part
		}
		drawn := func(seen [][]api.Event) int { return drawnPart(&d, parts, seen) }
		first := inOrder(t, q, parts, forth)
		for i, next := range []func([][]api.Event) int{forth, back, drawn, drawn, drawn} {
			e := inOrder(t, q, parts, next)
			if !maps.Equal(said(t, e.Rows), said(t, first.Rows)) || tableText(e) != tableText(first) {
				t.Fatalf("%v of %v, order %d: %q, %q; wanted are %q, %q", q, parts, i, rowsText(e.Rows), tableText(e), rowsText(first.Rows), tableText(first))
			}
			if e.Late != late || !slices.Equal(e.Read, first.Read) || !slices.Equal(e.Clock.Greatest, first.Clock.Greatest) {
				t.Fatalf("%v of %v, order %d: late %d, read %v, clock %v; wanted are %d, %v, %v", q, parts, i, e.Late, e.Read, e.Clock, late, first.Read, first.Clock)
			}
		}
	}
}

// folded question: each of its expressions with less.
func folded(q api.Query) api.Query {
	q.Aggs = slices.Clone(q.Aggs)
	for i, a := range q.Aggs {
		if a.Kind != api.Count {
			q.Aggs[i].Of = fold.Fold(a.Of)
		}
	}
	if len(q.Where) > 0 {
		q.Where = fold.Fold(q.Where)
	}
	if len(q.By) > 0 {
		q.By = fold.Fold(q.By)
	}
	return q
}

// TestW5: a question with less says the same, step by step.
func TestW5(t *testing.T) {
	d := die(35)
	less := 0
	for range 300 {
		q, parts := drawnQuery(t, &d), drawnParts(&d)
		f := folded(q)
		e, err := engine.New(q, len(parts))
		if err != nil {
			t.Fatal(err)
		}
		g, err := engine.New(f, len(parts))
		if err != nil {
			t.Fatalf("%v, with less %v: %v", q, f, err)
		}
		for part, l := range parts {
			for _, x := range l {
				e.Step(part, x)
				g.Step(part, x)
				if all(e) != all(g) {
					t.Fatalf("%v: %q, with less: %q", q, all(e), all(g))
				}
			}
		}
		if query.Text(f) != query.Text(q) {
			less++
		}
	}
	if less < 100 {
		t.Errorf("only %d questions can be said with less", less)
	}
}

// TestW5Nothing: what is nothing is nothing known: it isn't asked for, it is a key of its own, and nothing is gathered
// of it.
func TestW5Nothing(t *testing.T) {
	walk(t, begin(t, "count(*), count(a + b), sum(a + b), min(a + b) from events where (k = 9) is null or k < 9 group by k + 0 window 10", 1), []step{
		{"1 null null 1", "", 0, "0 null 1 0 null null"},
		{"2 null 1 null", "", 0, "0 null 2 0 null null"},
		{"3 null 1 1", "", 0, "0 null 3 1 2 2"},
		{"4 9 1 1", "", 0, "0 null 3 1 2 2"},
		{"5 0 null null", "", 0, "0 null 3 1 2 2; 0 0 1 0 null null"},
		{"6 null -5 1", "", 0, "0 null 4 2 -2 -4; 0 0 1 0 null null"},
	})
}
