package engine_test

import (
	"math"
	"slices"
	"strconv"
	"strings"
	"testing"

	"penstock/api"
	"penstock/engine"
	"penstock/query"
	"penstock/value"
)

func num(n int) api.Value { return api.Value{Kind: 1, N: n} }

// read a question.
func read(t *testing.T, s string) api.Query {
	t.Helper()
	q, err := query.Parse("select " + s)
	if err != nil {
		t.Fatalf("%q: %v", s, err)
	}
	return q
}

// begin an engine.
func begin(t *testing.T, s string, parts int) *engine.Engine {
	t.Helper()
	e, err := engine.New(read(t, s), parts)
	if err != nil {
		t.Fatal(err)
	}
	return e
}

// event of a text: its time, and what it has; what isn't said is nothing.
func event(t *testing.T, s string) api.Event {
	t.Helper()
	var l [4]api.Value
	for i, word := range strings.Fields(s) {
		v, err := value.Parse(word)
		if err != nil {
			t.Fatalf("%q: %v", s, err)
		}
		l[i] = v
	}
	return api.Event{Time: l[0].N, K: l[1], A: l[2], B: l[3]}
}

// take an event of a part: "1: 5 2" is of part 1, at 5.
func take(t *testing.T, e *engine.Engine, s string) {
	t.Helper()
	part, text, _ := strings.Cut(s, ":")
	n, err := strconv.Atoi(part)
	if err != nil {
		t.Fatalf("%q: %v", s, err)
	}
	e.Step(n, event(t, text))
}

func paneText(p api.Pane) string {
	s := strconv.Itoa(p.Start) + " " + value.Text(p.Key)
	for _, v := range p.Vals {
		s += " " + value.Text(v)
	}
	return s
}

func rowsText(l []api.Row) string {
	var texts []string
	for _, r := range l {
		sign := "+ "
		if r.Gone {
			sign = "- "
		}
		texts = append(texts, sign+paneText(r.Pane))
	}
	return strings.Join(texts, "; ")
}

// tableText: the panes of a table, those that were told with a '!'.
func tableText(e *engine.Engine) string {
	var texts []string
	for _, p := range e.Table.L {
		s := paneText(p.Out())
		if p.Told {
			s += "!"
		}
		texts = append(texts, s)
	}
	return strings.Join(texts, "; ")
}

// step: an event (of part 0, if none is said); the rows that it brings; how often it was too late by then; the table
// behind it.
type step struct {
	in, rows string
	late     int
	table    string
}

// walk an engine step by step.
func walk(t *testing.T, e *engine.Engine, steps []step) {
	t.Helper()
	for i, s := range steps {
		if !strings.Contains(s.in, ":") {
			s.in = "0: " + s.in
		}
		had, count := rowsText(e.Rows), len(e.Rows)
		wantRead := slices.Clone(e.Read)
		wantRead[s.in[0]-'0']++
		take(t, e, s.in)
		if len(e.Rows) < count || rowsText(e.Rows[:count]) != had {
			t.Fatalf("step %d (%s): the rows %q are %q now", i, s.in, had, rowsText(e.Rows))
		}
		if got := rowsText(e.Rows[count:]); got != s.rows {
			t.Errorf("step %d (%s): rows %q, wanted are %q", i, s.in, got, s.rows)
		}
		if got := tableText(e); got != s.table {
			t.Errorf("step %d (%s): table %q, wanted is %q", i, s.in, got, s.table)
		}
		if e.Late != s.late || !slices.Equal(e.Read, wantRead) {
			t.Errorf("step %d (%s): late %d, read %v; wanted are %d, %v", i, s.in, e.Late, e.Read, s.late, wantRead)
		}
	}
}

func TestK1New(t *testing.T) {
	for parts := 1; parts <= 3; parts++ {
		e := begin(t, "count(*), sum(a) from events where a is not null group by k window 10 slide 5 delay 2 late 5", parts)
		if !slices.Equal(e.Read, make([]int, parts)) || !slices.Equal(e.Clock.Greatest, []int{-1, -1, -1}[:parts]) {
			t.Errorf("of %d parts: read %v, clock %v", parts, e.Read, e.Clock)
		}
		if len(e.Table.L) > 0 || e.Late != 0 || len(e.Rows) > 0 {
			t.Errorf("of %d parts: table %v, late %d, rows %v", parts, e.Table, e.Late, e.Rows)
		}
	}
}

func TestK1Errors(t *testing.T) {
	good := read(t, "count(*) from events window 10")
	bad := func(change func(q *api.Query)) api.Query {
		q := good
		change(&q)
		return q
	}
	field := []api.Node{{Op: api.Field, N: 2}}
	for _, c := range []struct {
		what  string
		q     api.Query
		parts int
		want  error
	}{
		{"no question at all", api.Query{}, 1, api.ErrMany},
		{"too much is gathered", bad(func(q *api.Query) { q.Aggs = make([]api.Agg, 5) }), 1, api.ErrMany},
		{"no kind", bad(func(q *api.Query) { q.Aggs = []api.Agg{{Kind: 6, Of: field}} }), 1, api.ErrShape},
		{"a number isn't so", bad(func(q *api.Query) { q.Where = field }), 1, api.ErrShape},
		{"no expression", bad(func(q *api.Query) { q.By = []api.Node{{Op: api.Not, X: 3}} }), 1, query.Check(bad(func(q *api.Query) { q.By = []api.Node{{Op: api.Not, X: 3}} }))},
		{"no width", bad(func(q *api.Query) { q.Size = 0 }), 1, api.ErrBound},
		{"too wide", bad(func(q *api.Query) { q.Size, q.Slide = 1001, 1000 }), 1, api.ErrBound},
		{"too many windows", bad(func(q *api.Query) { q.Slide = 2 }), 1, api.ErrShape},
		{"waits too long", bad(func(q *api.Query) { q.Delay = 1001 }), 1, api.ErrBound},
		{"waits less than not", bad(func(q *api.Query) { q.Late = -1 }), 1, api.ErrBound},
		{"no part", good, 0, api.ErrBound},
		{"fewer than no part", good, -1, api.ErrBound},
		{"four parts", good, 4, api.ErrBound},
		{"the most parts", good, math.MaxInt, api.ErrBound},
		{"the least parts", good, math.MinInt, api.ErrBound},
		{"the question comes first", api.Query{}, 0, api.ErrMany},
		{"the question comes first", bad(func(q *api.Query) { q.Slide = 2 }), 4, api.ErrShape},
	} {
		e, err := engine.New(c.q, c.parts)
		if e != nil || err != c.want || c.want == nil {
			t.Errorf("%s: %v, %v; wanted is %v", c.what, e, err, c.want)
		}
	}
}

// TestK1Asked: what is so is asked for, what is not, or not known, isn't; read and seen is each.
func TestK1Asked(t *testing.T) {
	for _, c := range []struct{ where, table string }{
		{"", "0 null 3"},
		{"where true", "0 null 3"},
		{"where false", ""},
		{"where null", ""},
		{"where a > 0", "0 null 1"},
		{"where not a > 0", "0 null 1"},
		{"where a is null", "0 null 1"},
		{"where a > 0 or null", "0 null 1"},
		{"where a > 0 and null", ""},
		{"where a = a", "0 null 2"},
		{"where t < 3", "0 null 2"},
	} {
		e := begin(t, "count(*) from events "+c.where+" window 10", 1)
		for _, s := range []string{"1 1 5", "2 1 -5", "3 1 null"} {
			e.Step(0, event(t, s))
		}
		if got := tableText(e); got != c.table {
			t.Errorf("%q: %q, wanted is %q", c.where, got, c.table)
		}
		if e.Read[0] != 3 || e.Clock.Greatest[0] != 3 || e.Late != 0 {
			t.Errorf("%q: read %v, clock %v, late %d", c.where, e.Read, e.Clock, e.Late)
		}
	}
}

func TestK1Key(t *testing.T) {
	for _, c := range []struct{ by, table string }{
		{"", "0 null 4"},
		{"group by k", "0 null 1; 0 -2 1; 0 3 2"},
		{"group by a < 2", "0 null 1; 0 false 1; 0 true 2"},
		{"group by null", "0 null 4"},
		{"group by 7", "0 7 4"},
		{"group by t * 2", "0 2 1; 0 4 1; 0 6 1; 0 8 1"},
		{"group by a is null", "0 false 3; 0 true 1"},
	} {
		e := begin(t, "count(*) from events "+c.by+" window 10", 1)
		for _, s := range []string{"1 3 1", "2 null 2", "3 3 null", "4 -2 0"} {
			e.Step(0, event(t, s))
		}
		if got := tableText(e); got != c.table {
			t.Errorf("%q: %q, wanted is %q", c.by, got, c.table)
		}
	}
}

// TestK1Vals: each that is gathered has its own expression's value.
func TestK1Vals(t *testing.T) {
	for _, c := range []struct{ gathered, table string }{
		{"count(*)", "0 null 3"},
		{"count(a)", "0 null 2"},
		{"count(a < 3)", "0 null 2"},
		{"sum(a)", "0 null 11"},
		{"sum(a), sum(b), sum(k), sum(t)", "0 null 11 5 6 6"},
		{"min(a), max(a), min(b - a), max(b - a)", "0 null 4 7 1 1"},
		{"sum(null), min(null), max(null), count(null)", "0 null null null null 0"},
		{"count(*), count(a), count(*), count(b)", "0 null 3 2 3 1"},
	} {
		e := begin(t, c.gathered+" from events window 10", 1)
		for _, s := range []string{"1 1 4 5", "2 2 null null", "3 3 7 null"} {
			e.Step(0, event(t, s))
		}
		if got := tableText(e); got != c.table {
			t.Errorf("%q: %q, wanted is %q", c.gathered, got, c.table)
		}
	}
}

// TestK2TooLate: a window that ends, with what is waited for, up to how far it is known of the part, ahead of the event.
func TestK2TooLate(t *testing.T) {
	for _, c := range []struct {
		asked string
		ahead []string
		in    string
		late  int // how often the last event is too late
	}{
		{"window 10", nil, "0: 0", 0},
		{"window 10", []string{"0: 9"}, "0: 0", 0},
		{"window 10", []string{"0: 10"}, "0: 0", 1},
		{"window 10", []string{"0: 10"}, "0: 9", 1},
		{"window 10", []string{"0: 10"}, "0: 10", 0},
		{"window 10", []string{"0: 10"}, "0: 30", 0},
		{"window 10", []string{"0: 12", "0: 10"}, "0: 9", 1},
		{"window 10", []string{"0: 12", "0: 10"}, "0: 11", 0},
		{"window 10", []string{"0: 12", "0: 3"}, "0: 9", 1}, // the greatest time ahead, not the last one
		{"window 10 delay 2", []string{"0: 11"}, "0: 9", 0},
		{"window 10 delay 2", []string{"0: 12"}, "0: 9", 1},
		{"window 10 late 5", []string{"0: 14"}, "0: 9", 0},
		{"window 10 late 5", []string{"0: 15"}, "0: 9", 1},
		{"window 10 delay 2 late 5", []string{"0: 16"}, "0: 0", 0},
		{"window 10 delay 2 late 5", []string{"0: 17"}, "0: 0", 1},
		{"window 1000 delay 1000 late 1000", []string{"0: 2999"}, "0: 999", 0},
		{"window 1000 delay 1000 late 1000", []string{"0: 3000"}, "0: 999", 1},
		{"window 1", []string{"0: 9999"}, "0: 9999", 0},
		{"window 1", []string{"0: 9999"}, "0: 9998", 1},
		// Of each window that it is in: they begin at -6, -4, -2 and 0.
		{"window 8 slide 2", []string{"0: 1"}, "0: 1", 0},
		{"window 8 slide 2", []string{"0: 2"}, "0: 1", 1},
		{"window 8 slide 2", []string{"0: 5"}, "0: 1", 2},
		{"window 8 slide 2", []string{"0: 6"}, "0: 1", 3},
		{"window 8 slide 2", []string{"0: 7"}, "0: 1", 3},
		{"window 8 slide 2", []string{"0: 8"}, "0: 1", 4},
		{"window 8 slide 2 late 3", []string{"0: 4"}, "0: 1", 0},
		{"window 8 slide 2 late 3", []string{"0: 5"}, "0: 1", 1},
		{"window 8 slide 2 delay 3", []string{"0: 4"}, "0: 1", 0},
		{"window 8 slide 2 delay 3", []string{"0: 5"}, "0: 1", 1},
		// Other parts have no say in it.
		{"window 10", []string{"1: 9999", "2: 9999"}, "0: 0", 0},
		{"window 10", []string{"1: 9999", "2: 9999", "0: 9"}, "0: 0", 0},
		{"window 10", []string{"2: 10"}, "2: 1", 1},
		{"window 10", []string{"2: 10"}, "1: 1", 0},
		// What isn't asked for is not too late; it is seen, for all that.
		{"where a = 1 window 10", []string{"0: 50"}, "0: 0 1 2", 0},
		{"where a = 1 window 10", []string{"0: 50"}, "0: 0 1 null", 0},
		{"where a = 1 window 10", []string{"0: 50 1 2"}, "0: 0 1 1", 1},
	} {
		e := begin(t, "count(*) from events "+c.asked, 3)
		before := 0
		for _, s := range append(slices.Clone(c.ahead), c.in) {
			before = e.Late
			take(t, e, s)
		}
		if late := e.Late - before; late != c.late {
			t.Errorf("%s: behind %q %q is %d times too late, wanted is %d", c.asked, c.ahead, c.in, late, c.late)
		}
	}
}

// TestK2AddedTooLate: what is too late is added to no pane, neither to one that is there nor to a new one; to the other
// windows of the event it is.
func TestK2AddedTooLate(t *testing.T) {
	walk(t, begin(t, "sum(a) from events window 10 slide 5", 2), []step{
		{"0: 3 1 1", "", 0, "-5 null 1; 0 null 1"},
		{"0: 7 1 2", "", 0, "-5 null 1; 0 null 3; 5 null 2"},
		{"0: 4 1 4", "", 1, "-5 null 1; 0 null 7; 5 null 2"},
		{"0: 11 1 8", "", 1, "-5 null 1; 0 null 7; 5 null 10; 10 null 8"},
		{"0: 4 1 16", "", 3, "-5 null 1; 0 null 7; 5 null 10; 10 null 8"},
		// Of the other part nothing is known yet: it is not too late.
		{"1: 4 1 32", "", 3, "-5 null 33; 0 null 39; 5 null 10; 10 null 8"},
		{"1: 5 1 64", "+ -5 null 33", 3, "0 null 103; 5 null 74; 10 null 8"},
		{"0: 0 1 1", "", 5, "0 null 103; 5 null 74; 10 null 8"},
	})
}

// TestK2Told: panes are told when they end up to how far it is known of all, and dropped with what is waited for.
func TestK2Told(t *testing.T) {
	walk(t, begin(t, "count(*) from events group by k window 10 delay 2 late 5", 1), []step{
		{"3 2", "", 0, "0 2 1"},
		{"9", "", 0, "0 null 1; 0 2 1"},
		{"11 1", "", 0, "0 null 1; 0 2 1; 10 1 1"},
		{"12 3", "+ 0 null 1; + 0 2 1", 0, "0 null 1!; 0 2 1!; 10 1 1; 10 3 1"},
		{"12 3", "", 0, "0 null 1!; 0 2 1!; 10 1 1; 10 3 2"},
		// A new pane of a window that was told is told at once.
		{"0 1", "+ 0 1 1", 0, "0 null 1!; 0 1 1!; 0 2 1!; 10 1 1; 10 3 2"},
		{"9 2", "- 0 2 1; + 0 2 2", 0, "0 null 1!; 0 1 1!; 0 2 2!; 10 1 1; 10 3 2"},
		{"16 3", "", 0, "0 null 1!; 0 1 1!; 0 2 2!; 10 1 1; 10 3 3"},
		{"8 2", "- 0 2 2; + 0 2 3", 0, "0 null 1!; 0 1 1!; 0 2 3!; 10 1 1; 10 3 3"},
		{"17 3", "", 0, "10 1 1; 10 3 4"},
		{"8 2", "", 1, "10 1 1; 10 3 4"},
		// Much at once: told and dropped in one step.
		{"9000 7", "+ 10 1 1; + 10 3 4", 1, "9000 7 1"},
		{"9011 7", "", 1, "9000 7 1; 9010 7 1"},
		{"9012 7", "+ 9000 7 1", 1, "9000 7 1!; 9010 7 2"},
	})
}

// TestK2Boundary: a pane that ends just up to how far it is known of all is told; one later isn't. So it is of what is
// dropped.
func TestK2Boundary(t *testing.T) {
	walk(t, begin(t, "count(*) from events window 4", 1), []step{
		{"0", "", 0, "0 null 1"},
		{"3", "", 0, "0 null 2"},
		{"4", "+ 0 null 2", 0, "4 null 1"},
		{"9999", "+ 4 null 1", 0, "9996 null 1"},
	})
	walk(t, begin(t, "count(*) from events window 4 late 1", 1), []step{
		{"3", "", 0, "0 null 1"},
		{"4", "+ 0 null 1", 0, "0 null 1!; 4 null 1"},
		{"5", "", 0, "4 null 2"},
		{"3", "", 1, "4 null 2"},
	})
	// An event may end its own pane's window: of a window that ends it isn't, but of one of which less is known.
	walk(t, begin(t, "count(*) from events window 1 delay 1000 late 1000", 1), []step{
		{"0", "", 0, "0 null 1"},
		{"1000", "", 0, "0 null 1; 1000 null 1"},
		{"1001", "+ 0 null 1", 0, "0 null 1!; 1000 null 1; 1001 null 1"},
		{"2000", "", 0, "0 null 1!; 1000 null 1; 1001 null 1; 2000 null 1"},
		{"0", "- 0 null 1; + 0 null 2", 0, "0 null 2!; 1000 null 1; 1001 null 1; 2000 null 1"},
		{"2001", "+ 1000 null 1", 0, "1000 null 1!; 1001 null 1; 2000 null 1; 2001 null 1"},
		{"0", "", 1, "1000 null 1!; 1001 null 1; 2000 null 1; 2001 null 1"},
	})
}

// TestK2Parts: it is known of all as far as of the least part; while of one nothing was seen, nothing is told.
func TestK2Parts(t *testing.T) {
	walk(t, begin(t, "count(*) from events group by k window 10", 3), []step{
		{"0: 5 1", "", 0, "0 1 1"},
		{"0: 50 1", "", 0, "0 1 1; 50 1 1"},
		{"2: 15 2", "", 0, "0 1 1; 10 2 1; 50 1 1"},
		{"2: 25 2", "", 0, "0 1 1; 10 2 1; 20 2 1; 50 1 1"},
		// The part's first event: it is behind of what the others know, but not too late.
		{"1: 3 3", "", 0, "0 1 1; 0 3 1; 10 2 1; 20 2 1; 50 1 1"},
		{"1: 22 3", "+ 0 1 1; + 0 3 1; + 10 2 1", 0, "20 2 1; 20 3 1; 50 1 1"},
		{"2: 60 2", "", 0, "20 2 1; 20 3 1; 50 1 1; 60 2 1"},
		{"1: 55 3", "+ 20 2 1; + 20 3 1", 0, "50 1 1; 50 3 1; 60 2 1"},
		{"0: 51 1", "", 0, "50 1 2; 50 3 1; 60 2 1"},
	})
	// An event of a part that is ahead is too late by its own part, while the pane is there for the others.
	walk(t, begin(t, "count(*) from events window 10", 2), []step{
		{"0: 5", "", 0, "0 null 1"},
		{"0: 90", "", 0, "0 null 1; 90 null 1"},
		{"0: 6", "", 1, "0 null 1; 90 null 1"},
		{"1: 6", "", 1, "0 null 2; 90 null 1"},
		{"0: 6", "", 2, "0 null 2; 90 null 1"},
		{"1: 10", "+ 0 null 2", 2, "10 null 1; 90 null 1"},
	})
}

// TestK2Another: what was told is taken back only where it is another one now.
func TestK2Another(t *testing.T) {
	walk(t, begin(t, "max(a), count(b) from events window 10 late 20", 1), []step{
		{"1 1 5", "", 0, "0 null 5 0"},
		{"10 1", "+ 0 null 5 0", 0, "0 null 5 0!; 10 null null 0"},
		{"2 1 4", "", 0, "0 null 5 0!; 10 null null 0"},
		{"3 1 null", "", 0, "0 null 5 0!; 10 null null 0"},
		{"4 1 6", "- 0 null 5 0; + 0 null 6 0", 0, "0 null 6 0!; 10 null null 0"},
		{"4 1 6", "", 0, "0 null 6 0!; 10 null null 0"},
		{"5 1 2 0", "- 0 null 6 0; + 0 null 6 1", 0, "0 null 6 1!; 10 null null 0"},
		{"20", "+ 10 null null 0", 0, "0 null 6 1!; 10 null null 0!; 20 null null 0"},
		// From nothing to something.
		{"11 1 -3", "- 10 null null 0; + 10 null -3 0", 0, "0 null 6 1!; 10 null -3 0!; 20 null null 0"},
	})
	// The same sum again, beside a least one that is another.
	walk(t, begin(t, "sum(a), min(a) from events window 10 late 20", 1), []step{
		{"1 1 5", "", 0, "0 null 5 5"},
		{"10", "+ 0 null 5 5", 0, "0 null 5 5!; 10 null null null"},
		{"1 1 0", "- 0 null 5 5; + 0 null 5 0", 0, "0 null 5 0!; 10 null null null"},
		{"1 1 0", "", 0, "0 null 5 0!; 10 null null null"},
	})
	// Sums that go beyond all numbers, and come back.
	walk(t, begin(t, "sum(a * a * a) from events window 10 late 20", 1), []step{
		{"1 1 1000", "", 0, "0 null 1000000000"},
		{"10", "+ 0 null 1000000000", 0, "0 null 1000000000!; 10 null null"},
		{"1 1 1000", "- 0 null 1000000000; + 0 null null", 0, "0 null null!; 10 null null"},
		{"1 1 1000", "", 0, "0 null null!; 10 null null"},
		{"1 1 -1000", "", 0, "0 null null!; 10 null null"},
		{"1 1 -1000", "- 0 null null; + 0 null 1000000000", 0, "0 null 1000000000!; 10 null null"},
	})
}

// TestK2Order: windows rising, the old row ahead of the new one; what is told comes behind, by windows, then by keys.
func TestK2Order(t *testing.T) {
	walk(t, begin(t, "count(*) from events group by k window 8 slide 2 late 40", 2), []step{
		{"0: 6 1", "", 0, "0 1 1; 2 1 1; 4 1 1; 6 1 1"},
		{"0: 6 -1", "", 0, "0 -1 1; 0 1 1; 2 -1 1; 2 1 1; 4 -1 1; 4 1 1; 6 -1 1; 6 1 1"},
		{"0: 12", "", 0, "0 -1 1; 0 1 1; 2 -1 1; 2 1 1; 4 -1 1; 4 1 1; 6 null 1; 6 -1 1; 6 1 1; 8 null 1; 10 null 1; 12 null 1"},
		{"1: 10", "+ 0 -1 1; + 0 1 1; + 2 -1 1; + 2 1 1", 0,
			"0 -1 1!; 0 1 1!; 2 -1 1!; 2 1 1!; 4 null 1; 4 -1 1; 4 1 1; 6 null 2; 6 -1 1; 6 1 1; 8 null 2; 10 null 2; 12 null 1"},
		{"0: 7 1", "- 0 1 1; + 0 1 2; - 2 1 1; + 2 1 2", 0,
			"0 -1 1!; 0 1 2!; 2 -1 1!; 2 1 2!; 4 null 1; 4 -1 1; 4 1 2; 6 null 2; 6 -1 1; 6 1 2; 8 null 2; 10 null 2; 12 null 1"},
		{"1: 13 1", "+ 4 null 1; + 4 -1 1; + 4 1 2", 0,
			"0 -1 1!; 0 1 2!; 2 -1 1!; 2 1 2!; 4 null 1!; 4 -1 1!; 4 1 2!; 6 null 2; 6 -1 1; 6 1 3; 8 null 2; 8 1 1; 10 null 2; 10 1 1; 12 null 1; 12 1 1"},
	})
	// Taken back, and told, in one step: a pane that wasn't there is told behind those that are another one now.
	walk(t, begin(t, "count(*) from events group by k window 4 slide 2 late 40", 2), []step{
		{"0: 5 1", "", 0, "2 1 1; 4 1 1"},
		{"0: 9 1", "", 0, "2 1 1; 4 1 1; 6 1 1; 8 1 1"},
		{"1: 8 2", "+ 2 1 1; + 4 1 1", 0, "2 1 1!; 4 1 1!; 6 1 1; 6 2 1; 8 1 1; 8 2 1"},
		{"1: 5 1", "- 2 1 1; + 2 1 2; - 4 1 1; + 4 1 2", 0, "2 1 2!; 4 1 2!; 6 1 1; 6 2 1; 8 1 1; 8 2 1"},
		{"1: 3 1", "- 2 1 2; + 2 1 3; + 0 1 1", 0, "0 1 1!; 2 1 3!; 4 1 2!; 6 1 1; 6 2 1; 8 1 1; 8 2 1"},
		{"1: 3 2", "+ 0 2 1; + 2 2 1", 0, "0 1 1!; 0 2 1!; 2 1 3!; 2 2 1!; 4 1 2!; 6 1 1; 6 2 1; 8 1 1; 8 2 1"},
	})
}

// TestK2NotAsked: what isn't asked for is read and seen: it may bring rows, but is in none.
func TestK2NotAsked(t *testing.T) {
	walk(t, begin(t, "count(*) from events where a = 1 window 10", 1), []step{
		{"1 1 1", "", 0, "0 null 1"},
		{"2 1 2", "", 0, "0 null 1"},
		{"3 1 null", "", 0, "0 null 1"},
		{"10 1 2", "+ 0 null 1", 0, ""},
		{"20 1 1", "", 0, "20 null 1"},
	})
}

// TestK2Example: the document's.
func TestK2Example(t *testing.T) {
	e := begin(t, "count(*), sum(a) from events where a is not null group by k window 10 slide 5 delay 2 late 5", 2)
	for _, c := range []struct {
		in               string
		upto, late, kept int
		known            bool
		rows             string
	}{
		{"0: 3 1 10", 0, 0, 2, false, ""},
		{"0: 7 2 5", 0, 0, 4, false, ""},
		{"1: 2 2 7", 0, 0, 5, true, ""},
		{"0: 14 1 1", 0, 0, 7, true, ""},
		{"1: 18 2 null", 12, 0, 5, true, "+ -5 1 1 10; + -5 2 1 7; + 0 1 1 10; + 0 2 2 12"},
		{"0: 6 1 100", 12, 0, 5, true, "- 0 1 1 10; + 0 1 2 110"},
		{"0: 25 1 2", 16, 0, 5, true, "+ 5 1 2 101; + 5 2 1 5"},
		{"0: 4 1 9", 16, 2, 5, true, ""},
		{"1: 30 1 3", 23, 2, 4, true, "+ 10 1 1 1"},
	} {
		before := len(e.Rows)
		take(t, e, c.in)
		if got := rowsText(e.Rows[before:]); got != c.rows {
			t.Errorf("%s: rows %q, wanted are %q", c.in, got, c.rows)
		}
		upto, known := e.Clock.All(2)
		if upto != c.upto || known != c.known || e.Late != c.late || len(e.Table.L) != c.kept {
			t.Errorf("%s: upto %d, %v, late %d, kept %d; wanted is %v", c.in, upto, known, e.Late, len(e.Table.L), c)
		}
	}
	if !slices.Equal(e.Read, []int{6, 3}) {
		t.Errorf("read are %v", e.Read)
	}
}

// all that an engine has, as a text.
func all(e *engine.Engine) string {
	s := ""
	for _, n := range slices.Concat(e.Read, []int{-7}, e.Clock.Greatest, []int{-7, e.Late, len(e.Rows)}) {
		s += strconv.Itoa(n) + " "
	}
	return s + "| " + tableText(e) + " | " + rowsText(e.Rows)
}

// TestZ1Steps: of a part that there isn't, and of an event that may not be, nothing changes.
func TestZ1Steps(t *testing.T) {
	e := begin(t, "count(*), sum(a) from events group by k window 10 slide 5 late 20", 2)
	wild := []int{math.MinInt, math.MinInt + 1, -1, 2, 3, 1 << 32, math.MaxInt}
	for round := range 3 {
		was := all(e)
		for _, part := range wild {
			e.Step(part, api.Event{Time: 30})
		}
		for _, at := range []int{math.MinInt, -1, 10000, math.MaxInt - 3, math.MaxInt} {
			e.Step(0, api.Event{Time: at})
		}
		for _, v := range []api.Value{
			num(1001), num(-1001), num(math.MaxInt), num(math.MinInt), {Kind: 2}, {Kind: 2, N: 1}, {Kind: 2, N: 2},
			{Kind: 3}, {Kind: -1}, {Kind: math.MaxInt, N: math.MinInt}, {N: 1}, {N: math.MinInt},
		} {
			e.Step(0, api.Event{Time: 30, K: v})
			e.Step(1, api.Event{Time: 30, A: v})
			e.Step(1, api.Event{Time: 30, B: v})
		}
		if now := all(e); now != was {
			t.Errorf("the engine was %q, and is %q now", was, now)
		}
		e.Step(round%2, api.Event{Time: 10 * round, K: num(1000), A: num(-1000), B: num(0)})
		if now := all(e); now == was {
			t.Error("an event that may be changes nothing")
		}
	}
}

// TestZ1Questions: whatever the question is, New tells what Check says of it, and no step panics.
func TestZ1Questions(t *testing.T) {
	d := die(11)
	made := 0
	for range 60000 {
		q := wildQuery(&d)
		parts := d.n(6) - 1
		e, err := engine.New(q, parts)
		want := query.Check(q)
		if want == nil && (parts < 1 || parts > 3) {
			want = api.ErrBound
		}
		if err != want || (e == nil) != (err != nil) {
			t.Fatalf("%v, %d: %v, %v; wanted is %v", q, parts, e, err, want)
		}
		if e == nil {
			continue
		}
		made++
		for range 8 {
			e.Step(d.n(parts+1), api.Event{Time: d.n(40), K: num(d.n(3)), A: num(1000 - d.n(2001)), B: []api.Value{{}, num(d.n(9))}[d.n(2)]})
		}
	}
	if made < 300 {
		t.Errorf("only %d of the questions may be", made)
	}
}

// wildNode: a node of an expression, number i, that may be, or not.
func wildNode(d *die, i int) api.Node {
	op := 1 + d.n(12)
	if i == 0 || d.n(2) == 0 {
		op = 1 + d.n(2)
	}
	switch op {
	case api.Const:
		return api.Node{Op: op, Val: []api.Value{{}, num(3), {Kind: 2, N: 1}, {Kind: 3}}[d.n(4)]}
	case api.Field:
		return api.Node{Op: op, N: d.n(5)}
	case api.Neg, api.Not, api.IsNull:
		return api.Node{Op: op, X: i - 1}
	}
	return api.Node{Op: op, X: i - 2, Y: i - 1}
}

// wildQuery: a question that may be, or not.
func wildQuery(d *die) api.Query {
	list := func() []api.Node {
		l := make([]api.Node, d.n(4))
		for i := range l {
			l[i] = wildNode(d, i)
		}
		return l
	}
	q := api.Query{Where: list(), By: list(), Size: d.n(8), Slide: d.n(5), Delay: d.n(4) * d.n(400), Late: d.n(6) - d.n(2)}
	for range 1 + d.n(2) {
		a := api.Agg{Kind: 1 + d.n(6), Of: list()}
		if a.Kind == api.Count && d.n(4) > 0 {
			a.Of = nil
		}
		q.Aggs = append(q.Aggs, a)
	}
	return q
}

// TestZ2Question: an engine goes on with its question, whatever becomes of the lists that it was handed in; what stands
// behind them isn't touched.
func TestZ2Question(t *testing.T) {
	const s = "count(a), sum(a - b), count(*) from events where a < 100 group by k window 10 late 5"
	q := read(t, s)
	roomy := func(l []api.Node) []api.Node {
		return append(slices.Clone(l), api.Node{Op: 99}, api.Node{Op: 98})[:len(l)]
	}
	for i := range q.Aggs {
		q.Aggs[i].Of = roomy(q.Aggs[i].Of)
	}
	q.Where, q.By = roomy(q.Where), roomy(q.By)
	q.Aggs = append(q.Aggs, api.Agg{Kind: 77})[:3]
	before := query.Text(q)
	e, err := engine.New(q, 1)
	if err != nil {
		t.Fatal(err)
	}
	if query.Text(q) != before {
		t.Errorf("the question is another one: %s", query.Text(q))
	}
	other := begin(t, s, 1)
	for i, x := range []string{"1 1 4 2", "2 2 5", "3 1 101", "11 1 7 7", "4 1 -3 1", "30 2 1 1", "2 1 1"} {
		if i == 2 {
			spoil(q)
		}
		e.Step(0, event(t, x))
		other.Step(0, event(t, x))
		if all(e) != all(other) {
			t.Fatalf("step %d: %q, wanted is %q", i, all(e), all(other))
		}
	}
}

// spoil the lists of a question, also behind their ends.
func spoil(q api.Query) {
	clean := func(l []api.Node) { clear(l[:cap(l)]) }
	for _, a := range q.Aggs {
		clean(a.Of)
	}
	clear(q.Aggs[:cap(q.Aggs)])
	clean(q.Where)
	clean(q.By)
}

// TestZ2Behind: neither New nor Step writes behind a question's lists.
func TestZ2Behind(t *testing.T) {
	q := read(t, "sum(a) from events where a < b group by k window 10")
	mark := api.Node{Op: 99, X: 9}
	for _, l := range []*[]api.Node{&q.Aggs[0].Of, &q.Where, &q.By} {
		*l = append(slices.Clone(*l), mark)
	}
	aggs := append(q.Aggs, api.Agg{Kind: 77})
	short := q
	short.Aggs = slices.Clone(aggs)[:1]
	short.Aggs[0].Of = q.Aggs[0].Of[:len(q.Aggs[0].Of)-1]
	short.Where, short.By = q.Where[:len(q.Where)-1], q.By[:len(q.By)-1]
	e, err := engine.New(short, 1)
	if err != nil {
		t.Fatal(err)
	}
	for at := range 30 {
		e.Step(0, api.Event{Time: at, A: num(1), B: num(2)})
	}
	for _, l := range [][]api.Node{q.Aggs[0].Of, q.Where, q.By} {
		if l[len(l)-1] != mark {
			t.Errorf("what stood behind a list is %v now", l[len(l)-1])
		}
	}
	if short.Aggs[:2][1].Kind != 77 {
		t.Errorf("what stood behind the list is %v now", short.Aggs[:2][1])
	}
}

// TestZ2Rows: no two rows share a list, and none shares one with the table: whoever writes into a row's values changes
// nothing else.
func TestZ2Rows(t *testing.T) {
	const s = "count(*), max(a) from events window 10 late 30"
	steps := []string{"1 1 1", "10 1 2", "2 1 3", "3 1 4", "20 1 5", "12 1 9", "30 1 1"}
	e, other := begin(t, s, 1), begin(t, s, 1)
	for i, x := range steps {
		e.Step(0, event(t, x))
		other.Step(0, event(t, x))
		for k, r := range e.Rows {
			vals := r.Pane.Vals[:cap(r.Pane.Vals)]
			kept := slices.Clone(vals)
			was := all(e)
			for j := range vals {
				vals[j] = num(-99)
			}
			e.Rows[k].Pane.Vals = kept
			if all(e) != was {
				t.Fatalf("step %d: row %d is shared: %q, wanted is %q", i, k, all(e), was)
			}
		}
		if all(e) != all(other) {
			t.Fatalf("step %d: %q, wanted is %q", i, all(e), all(other))
		}
	}
}

// TestZ2Apart: engines of one question have nothing to do with each other; two that were called alike have the same.
func TestZ2Apart(t *testing.T) {
	q := read(t, "count(*), sum(a) from events group by k window 10 slide 5 delay 2 late 5")
	one, _ := engine.New(q, 2)
	two, _ := engine.New(q, 2)
	for i := range 60 {
		one.Step(i%2, api.Event{Time: i * 7 % 90, K: num(i % 3), A: num(i)})
	}
	if got := all(two); got != "0 0 -7 -1 -1 -7 0 0 |  | " {
		t.Errorf("of an engine that wasn't called: %q", got)
	}
	for i := range 60 {
		two.Step(i%2, api.Event{Time: i * 7 % 90, K: num(i % 3), A: num(i)})
	}
	if all(one) != all(two) {
		t.Errorf("%q and %q", all(one), all(two))
	}
}

// TestZ2Older: clocks and tables that an engine had stay as they were.
func TestZ2Older(t *testing.T) {
	e := begin(t, "count(*) from events group by k window 10 slide 5 late 5", 1)
	type kept struct {
		e    engine.Engine
		text string
	}
	var old []kept
	for i := range 30 {
		k := engine.Engine{Clock: e.Clock, Table: e.Table, Rows: e.Rows}
		old = append(old, kept{k, all(&k)})
		e.Step(0, api.Event{Time: i*3 - i%4, K: num(i % 2)})
	}
	for i, k := range old {
		if got := all(&k.e); got != k.text {
			t.Errorf("what it had ahead of step %d was %q, and is %q now", i, k.text, got)
		}
	}
}

// TestZ3: errors are bare numbers of package api.
func TestZ3(t *testing.T) {
	for _, c := range []struct {
		q     api.Query
		parts int
	}{{api.Query{}, 1}, {read(t, "count(*) from events window 10"), 4}} {
		_, err := engine.New(c.q, c.parts)
		if _, is := err.(api.Errno); !is {
			t.Errorf("%v is no number of package api", err)
		}
	}
}
