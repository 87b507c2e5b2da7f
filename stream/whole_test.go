package stream_test

import (
	"slices"
	"strconv"
	"strings"
	"testing"

	"penstock/api"
	"penstock/batch"
	"penstock/disk"
	"penstock/engine"
	"penstock/source"
	"penstock/stream"
	"penstock/value"
)

// die: numbers that look drawn, the same each time.
type die uint64

func (d *die) n(most int) int {
	*d = *d*6364136223846793005 + 1442695040888963407
	return int(uint64(*d>>33) % uint64(most))
}

func (d *die) word(words ...string) string { return words[d.n(len(words))] }

func (d *die) mask() uint64 {
	return uint64(d.n(1<<31))<<40 ^ uint64(d.n(1<<31))<<20 ^ uint64(d.n(1<<31))
}

// drawnQuery: a question that may be.
func drawnQuery(t *testing.T, d *die) api.Query {
	t.Helper()
	s := ""
	for i := range 1 + d.n(3) {
		if i > 0 {
			s += ", "
		}
		s += d.word("count(*)", "count(a)", "sum(a)", "sum(a * b - k)", "min(a)", "max(b + t * 2)", "sum(a * 600000000)")
	}
	s += " from events " + d.word("", "", "where a > 0", "where not (a = b) or k = 1")
	s += " " + d.word("", "group by k", "group by k", "group by a < b")
	size := 1 + d.n(12)
	least := (size + 3) / 4
	s += " window " + strconv.Itoa(size) + " slide " + strconv.Itoa(least+d.n(size-least+1))
	s += " delay " + strconv.Itoa(d.n(3)*d.n(6)) + " late " + strconv.Itoa(d.n(3)*d.n(15))
	return read(t, s)
}

// drawnParts: events of some parts; their times go on, most often.
func drawnParts(d *die) [][]api.Event {
	parts := make([][]api.Event, 1+d.n(3))
	field := func() api.Value { return []api.Value{{}, num(d.n(3)), num(d.n(9) - 4)}[d.n(3)] }
	for part := range parts {
		greatest := d.n(9)
		for range 1 + d.n(20) {
			at := max(greatest+d.n(7)-d.n(2)*d.n(16), 0)
			greatest = max(greatest, at)
			parts[part] = append(parts[part], api.Event{Time: at, K: field(), A: field(), B: field()})
		}
	}
	return parts
}

// machine: a stream on a disk that falls, and the rows that counted when it was told so last.
type machine struct {
	t      *testing.T
	q      api.Query
	s      *source.Source
	d      *disk.Disk
	u      *stream.Stream
	counts []string
}

func newMachine(t *testing.T, q api.Query, parts [][]api.Event) *machine {
	t.Helper()
	m := &machine{t: t, q: q, s: sourceOf(t, parts...), d: formatted(t, api.Sectors)}
	m.u = open(t, q, m.s, m.d)
	return m
}

// look at the rows that count: those that counted still do.
func (m *machine) look() {
	m.t.Helper()
	l := split(m.u.Rows())
	if len(l) < len(m.counts) || !slices.Equal(l[:len(m.counts)], m.counts) {
		m.t.Fatalf("%v counted, now %v do", m.counts, l)
	}
	m.counts = l
}

func split(l []api.Row) []string {
	if len(l) == 0 {
		return nil
	}
	return strings.Split(rowsText(l), "; ")
}

// save, and begin anew if it falls.
func (m *machine) save(keep uint64) {
	m.t.Helper()
	switch err := m.u.Save(); err {
	case nil:
		m.look()
	case api.ErrDown:
		m.restart(keep)
	default:
		m.t.Fatal(err)
	}
}

func (m *machine) restart(keep uint64) {
	m.t.Helper()
	m.d.Restart(keep)
	m.u = open(m.t, m.q, m.s, m.d)
	m.look()
}

// end: all is read and saved, without falls: what counts is the answer.
func (m *machine) end(parts [][]api.Event) {
	m.t.Helper()
	m.d.Arm(-1)
	for part := range parts {
		for m.u.Step(part) == nil {
		}
	}
	m.save(0)
	if m.u.Waiting() != 0 {
		m.t.Fatalf("%d rows are waiting", m.u.Waiting())
	}
	want, late := answer(m.q, parts)
	if got := net(m.t, m.u.Rows()); !slices.Equal(got, want) || m.u.Late() != late {
		m.t.Fatalf("%v, %d too late; not %v, %d", got, m.u.Late(), want, late)
	}
	for part, l := range parts {
		if m.u.Read()[part] != len(l) {
			m.t.Fatalf("of part %d %d are read", part, m.u.Read()[part])
		}
	}
}

// net: what is so, all in all; nothing is said twice, and only what was so is gone.
func net(t *testing.T, l []api.Row) []string {
	t.Helper()
	var so []string
	for _, r := range l {
		text := rowsText([]api.Row{{Pane: r.Pane}})
		at := slices.Index(so, text)
		switch {
		case r.Gone && at >= 0:
			so = slices.Delete(so, at, at+1)
		case !r.Gone && at < 0:
			so = append(so, text)
		default:
			t.Fatalf("%v, where %v is so", r, so)
		}
	}
	slices.Sort(so)
	return so
}

// answer of all events, of the windows of which all is known, and how often something is too late.
func answer(q api.Query, parts [][]api.Event) ([]string, int) {
	upto := api.MaxTime
	for _, l := range parts {
		greatest := 0
		for _, x := range l {
			greatest = max(greatest, x.Time)
		}
		upto = min(upto, greatest-q.Delay)
	}
	l, late := batch.Answer(q, parts)
	var texts []string
	for _, p := range l {
		if p.Start+q.Size <= upto {
			texts = append(texts, rowsText([]api.Row{{Pane: p}}))
		}
	}
	slices.Sort(texts)
	return texts, late
}

// TestW4Drawn: steps, saves, falls and beginnings anew, in an order that is drawn.
func TestW4Drawn(t *testing.T) {
	d := die(162)
	for range 250 {
		q, parts := drawnQuery(t, &d), drawnParts(&d)
		m := newMachine(t, q, parts)
		for range 60 {
			switch d.n(8) {
			case 0:
				m.save(d.mask())
			case 1:
				m.d.Arm(d.n(10) - 2)
				m.save(d.mask())
			case 2:
				if d.n(3) == 0 {
					m.restart(d.mask())
				}
			default:
				m.u.Step(d.n(len(parts)))
			}
		}
		m.end(parts)
	}
}

// TestW4EachStep: a fall at each step of a save, behind another one that was good; with masks of all, nothing, and others.
func TestW4EachStep(t *testing.T) {
	d := die(163)
	for range 12 {
		q, parts := drawnQuery(t, &d), drawnParts(&d)
		for steps := range 12 {
			for _, keep := range []uint64{0, 1, 2, 1<<64 - 1, d.mask()} {
				m := newMachine(t, q, parts)
				for range 10 {
					m.u.Step(d.n(len(parts)))
				}
				m.save(0)
				for range 10 {
					m.u.Step(d.n(len(parts)))
				}
				m.d.Arm(steps)
				m.save(keep)
				m.end(parts)
			}
		}
	}
}

// TestP1Engine: what a stream tells is what an engine has that reads the same.
func TestP1Engine(t *testing.T) {
	d := die(164)
	for range 100 {
		q, parts := drawnQuery(t, &d), drawnParts(&d)
		m := newMachine(t, q, parts)
		e, err := engine.New(q, len(parts))
		if err != nil {
			t.Fatal(err)
		}
		count := 0
		for range 50 {
			part := d.n(len(parts))
			if n := e.Read[part]; m.u.Step(part) == nil {
				e.Step(part, parts[part][n])
			}
			switch d.n(12) {
			case 0:
				saved(t, m.u)
				count = len(e.Rows)
			case 1:
				saved(t, m.u)
				count = len(e.Rows)
				m.restart(d.mask())
			}
			upto, known := e.Clock.All(q.Delay)
			at, is := m.u.Upto()
			if !slices.Equal(m.u.Read(), e.Read) || m.u.Late() != e.Late || m.u.Kept() != len(e.Table.L) || at != upto || is != known ||
				m.u.Waiting() != len(e.Rows)-count || rowsText(m.u.Rows()) != rowsText(e.Rows[:count]) {
				t.Fatalf("%s, of an engine with %v, %d late, %d kept, %d rows, known up to %s", state(m.u), e.Read, e.Late, len(e.Table.L), len(e.Rows),
					value.Text(num(upto)))
			}
		}
	}
}
