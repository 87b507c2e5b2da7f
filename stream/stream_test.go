package stream_test

import (
	"math"
	"slices"
	"strconv"
	"strings"
	"testing"

	"penstock/api"
	"penstock/disk"
	"penstock/query"
	"penstock/save"
	"penstock/source"
	"penstock/stream"
	"penstock/value"
)

func num(n int) api.Value { return api.Value{Kind: 1, N: n} }

// read a question.
func read(t *testing.T, s string) api.Query {
	t.Helper()
	q, err := query.Parse("select " + s)
	if err != nil {
		t.Fatalf("%q: %v", s, err)
	}
	return q
}

// source of events, part by part.
func sourceOf(t *testing.T, parts ...[]api.Event) *source.Source {
	t.Helper()
	s, err := source.New(len(parts))
	if err != nil {
		t.Fatal(err)
	}
	for part, l := range parts {
		for _, x := range l {
			if err := s.Put(part, x); err != nil {
				t.Fatal(err)
			}
		}
	}
	return s
}

// formatted disk.
func formatted(t *testing.T, n int) *disk.Disk {
	t.Helper()
	d, err := disk.New(n)
	if err != nil {
		t.Fatal(err)
	}
	if err := save.Format(d); err != nil {
		t.Fatal(err)
	}
	return d
}

func open(t *testing.T, q api.Query, s *source.Source, d *disk.Disk) *stream.Stream {
	t.Helper()
	u, err := stream.Open(q, s, d)
	if err != nil {
		t.Fatal(err)
	}
	return u
}

// step of each of these parts, one behind the other.
func step(t *testing.T, u *stream.Stream, parts ...int) {
	t.Helper()
	for _, part := range parts {
		if err := u.Step(part); err != nil {
			t.Fatalf("part %d: %v", part, err)
		}
	}
}

func saved(t *testing.T, u *stream.Stream) {
	t.Helper()
	if err := u.Save(); err != nil {
		t.Fatal(err)
	}
}

func rowsText(l []api.Row) string {
	var texts []string
	for _, r := range l {
		s := "+ "
		if r.Gone {
			s = "- "
		}
		s += strconv.Itoa(r.Pane.Start) + " " + value.Text(r.Pane.Key)
		for _, v := range r.Pane.Vals {
			s += " " + value.Text(v)
		}
		texts = append(texts, s)
	}
	return strings.Join(texts, "; ")
}

// state of a stream, as a session tells it.
func state(u *stream.Stream) string {
	s := ""
	for _, n := range u.Read() {
		s += strconv.Itoa(n) + " "
	}
	upto, known := u.Upto()
	s += "upto "
	if known {
		s += strconv.Itoa(upto)
	} else {
		s += "none"
	}
	return s + " late " + strconv.Itoa(u.Late()) + " kept " + strconv.Itoa(u.Kept()) + " waiting " + strconv.Itoa(u.Waiting())
}

func is(t *testing.T, what, got, want string) {
	t.Helper()
	if got != want {
		t.Errorf("%s: %q, not %q", what, got, want)
	}
}

// example of the document: its question, and its events.
func example(t *testing.T) (api.Query, *source.Source) {
	t.Helper()
	q := read(t, "count(*), sum(a) from events where a is not null group by k window 10 slide 5 delay 2 late 5")
	event := func(at, k, a int) api.Event { return api.Event{Time: at, K: num(k), A: num(a)} }
	return q, sourceOf(t,
		[]api.Event{event(3, 1, 10), event(7, 2, 5), event(14, 1, 1), event(6, 1, 100), event(25, 1, 2), event(4, 1, 9)},
		[]api.Event{event(2, 2, 7), {Time: 18, K: num(2)}, event(30, 1, 3)})
}

// TestExample: P1, P2, held against the document's session.
func TestExample(t *testing.T) {
	q, s := example(t)
	d := formatted(t, api.Sectors)
	u := open(t, q, s, d)
	is(t, "at first", state(u), "0 0 upto none late 0 kept 0 waiting 0")
	step(t, u, 0, 0)
	is(t, "of one part", state(u), "2 0 upto none late 0 kept 4 waiting 0")
	step(t, u, 1)
	is(t, "of both", state(u), "2 1 upto 0 late 0 kept 5 waiting 0")
	step(t, u, 0, 1)
	is(t, "told", state(u), "3 2 upto 12 late 0 kept 5 waiting 4")
	is(t, "none counts", rowsText(u.Rows()), "")
	saved(t, u)
	first := "+ -5 1 1 10; + -5 2 1 7; + 0 1 1 10; + 0 2 2 12"
	is(t, "they count", rowsText(u.Rows()), first)
	step(t, u, 0)
	is(t, "taken back", state(u), "4 2 upto 12 late 0 kept 5 waiting 2")
	is(t, "not yet", rowsText(u.Rows()), first)
	saved(t, u)
	second := first + "; - 0 1 1 10; + 0 1 2 110"
	is(t, "taken back", rowsText(u.Rows()), second)
	step(t, u, 0, 0, 1)
	is(t, "all", state(u), "6 3 upto 23 late 2 kept 4 waiting 3")
	d.Restart(0)
	u = open(t, q, s, d)
	is(t, "anew", state(u), "4 2 upto 12 late 0 kept 5 waiting 0")
	is(t, "anew", rowsText(u.Rows()), second)
	step(t, u, 0, 0, 1)
	saved(t, u)
	is(t, "all in all", rowsText(u.Rows()), second+"; + 5 1 2 101; + 5 2 1 5; + 10 1 1 1")
	is(t, "all in all", state(u), "6 3 upto 23 late 2 kept 4 waiting 0")
}

func TestP1Errors(t *testing.T) {
	q, s := example(t)
	small, down, good := formatted(t, 4), formatted(t, 4), formatted(t, 4)
	plain, err := disk.New(3)
	if err != nil {
		t.Fatal(err)
	}
	down.Arm(0)
	down.Flush()
	bad, wide := q, q
	bad.Aggs = nil
	wide.Slide = 0
	cases := []struct {
		what string
		q    api.Query
		d    *disk.Disk
		want error
	}{
		{"a question that may not be", bad, good, query.Check(bad)},
		{"ahead of a disk that is down", bad, down, query.Check(bad)},
		{"ahead of one that isn't formatted", wide, plain, query.Check(wide)},
		{"nothing at all", api.Query{}, good, query.Check(api.Query{})},
		{"down", q, down, api.ErrDown},
		{"not formatted", q, plain, api.ErrText},
		{"good", q, good, nil},
		{"small", q, small, nil},
	}
	for _, c := range cases {
		u, err := stream.Open(c.q, s, c.d)
		if err != c.want || (u == nil) != (err != nil) {
			t.Errorf("%s: %v, %v, not %v", c.what, u, err, c.want)
		}
	}
	if query.Check(bad) == nil || query.Check(wide) == nil {
		t.Error("they may be")
	}
}

// TestP1NoText: a text that isn't an engine's.
func TestP1NoText(t *testing.T) {
	q, s := example(t)
	d := formatted(t, 4)
	if err := save.Write(d, "hay"); err != nil {
		t.Fatal(err)
	}
	if u, err := stream.Open(q, s, d); u != nil || err != api.ErrText {
		t.Errorf("%v, %v", u, err)
	}
}

func TestP2Step(t *testing.T) {
	q := read(t, "count(*) from events window 5")
	s := sourceOf(t, []api.Event{{Time: 1}, {Time: 7}}, nil, []api.Event{{Time: 2}})
	u := open(t, q, s, formatted(t, 8))
	for _, part := range []int{math.MinInt, -1, 3, 4, math.MaxInt} {
		if err := u.Step(part); err != api.ErrNone {
			t.Errorf("part %d: %v", part, err)
		}
	}
	is(t, "of no part", state(u), "0 0 0 upto none late 0 kept 0 waiting 0")
	step(t, u, 0, 2, 0)
	for part := range 3 {
		for range 2 {
			if err := u.Step(part); err != api.ErrState {
				t.Errorf("part %d: %v", part, err)
			}
		}
	}
	is(t, "all is read", state(u), "2 0 1 upto none late 0 kept 2 waiting 0")
	if err := s.Put(1, api.Event{Time: 9}); err != nil {
		t.Fatal(err)
	}
	if err := s.Put(2, api.Event{Time: 8}); err != nil {
		t.Fatal(err)
	}
	step(t, u, 1, 2)
	is(t, "what came later", state(u), "2 1 2 upto 7 late 0 kept 1 waiting 1")
}

// TestP2SaveErrors: what isn't saved doesn't count, and nothing changes.
func TestP2SaveErrors(t *testing.T) {
	q, s := example(t)
	d := formatted(t, 4)
	u := open(t, q, s, d)
	saved(t, u)
	for part := range 2 {
		for u.Step(part) == nil {
		}
	}
	want := "6 3 upto 23 late 2 kept 4 waiting " + strconv.Itoa(u.Waiting())
	d.Arm(0)
	if err := u.Save(); err != api.ErrDown {
		t.Errorf("down: %v", err)
	}
	is(t, "down", rowsText(u.Rows())+state(u), want)
	d.Restart(0)
	is(t, "as it was saved last", state(open(t, q, s, d)), "0 0 upto none late 0 kept 0 waiting 0")
	for at := range 4 {
		if err := d.Write(at, "others"); err != nil {
			t.Fatal(err)
		}
	}
	if err := u.Save(); err != api.ErrText {
		t.Errorf("not formatted: %v", err)
	}
	is(t, "not formatted", rowsText(u.Rows())+state(u), want)
}

// great parts: as many events as there may be, of panes of their own, or of few.
func great(d *die) [][]api.Event {
	parts, same := make([][]api.Event, api.MaxParts), 1+d.n(4)*d.n(4)
	for part := range parts {
		parts[part] = []api.Event{{Time: api.MaxTime, K: num(-1000), A: num(-1000), B: num(-1000)}}
		for i := 1; i < api.MaxEvents; i++ {
			n := -1000 + (i*3+part)/same
			parts[part] = append(parts[part], api.Event{Time: api.MaxTime - 1009 - d.n(9), K: num(n), A: num(n), B: num(-999 + i)})
		}
	}
	return parts
}

// TestGreat: N1, O2: an engine that read all that a source may have fits on a disk of all sectors; on a small one there is
// no room for it.
func TestGreat(t *testing.T) {
	questions := []string{
		"min(a * 1000000 - b), max(b * 1000000 - a), min(b * 999999), max(a * 999999) from events group by k * 1000000 - t window 1000 slide 250 late 1000",
		"sum(a * 1000000 - b), sum(b * 1000000 - a), sum(b * 999999), sum(a * 999999) from events group by k * 1000000 window 1000 slide 250 late 1000",
		"min(a * 1000000), sum(b * 900000), max(b * 1000000 - a), count(b) from events group by k window 1000 slide 250 delay 3 late 1000",
	}
	d := die(161)
	for _, text := range questions {
		q := read(t, text)
		for range 8 {
			s, y, small := sourceOf(t, great(&d)...), formatted(t, api.Sectors), formatted(t, 8)
			u, v := open(t, q, s, y), open(t, q, s, small)
			for k := range api.MaxEvents * api.MaxParts {
				step(t, u, k%3)
				step(t, v, k%3)
			}
			if u.Waiting() < 100 || u.Kept() < 20 {
				t.Fatalf("it is not great: %s", state(u))
			}
			saved(t, u)
			again := open(t, q, s, y)
			is(t, "great", state(again), state(u))
			is(t, "great", rowsText(again.Rows()), rowsText(u.Rows()))
			was := state(v)
			if err := v.Save(); err != api.ErrFull {
				t.Errorf("there is room: %v", err)
			}
			is(t, "no room", rowsText(v.Rows())+state(v), was)
			is(t, "no room", state(open(t, q, s, small)), "0 0 0 upto none late 0 kept 0 waiting 0")
		}
	}
}

// TestZ2: what comes out is the caller's, and what was handed in is not kept.
func TestZ2(t *testing.T) {
	q, s := example(t)
	d := formatted(t, api.Sectors)
	mine, _ := example(t)
	u, v := open(t, mine, s, d), open(t, q, s, d)
	for i := range mine.Aggs {
		clear(mine.Aggs[i].Of)
	}
	clear(mine.Aggs)
	clear(mine.Where)
	clear(mine.By)
	for _, part := range []int{0, 0, 1, 0, 1, 0} {
		step(t, u, part)
		step(t, v, part)
	}
	saved(t, u)
	saved(t, v)
	is(t, "its question", rowsText(u.Rows())+state(u), rowsText(v.Rows())+state(v))
	l := u.Rows()
	for i := range l {
		vals := l[i].Pane.Vals
		vals = vals[:cap(vals)]
		for k := range vals {
			vals[k] = num(-77)
		}
	}
	l = slices.Grow(l, 1)[:cap(l)]
	clear(l)
	n := u.Read()
	n = n[:cap(n)]
	for i := range n {
		n[i] = 77
	}
	is(t, "its rows", rowsText(u.Rows())+state(u), rowsText(v.Rows())+state(v))
	step(t, u, 0, 0, 1)
	step(t, v, 0, 0, 1)
	saved(t, u)
	saved(t, v)
	is(t, "goes on", rowsText(u.Rows())+state(u), rowsText(v.Rows())+state(v))
}
