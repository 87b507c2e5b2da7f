package shot_test

import (
	"math"
	"slices"
	"strconv"
	"strings"
	"testing"

	"penstock/api"
	"penstock/engine"
	"penstock/panes"
	"penstock/query"
	"penstock/shot"
	"penstock/value"
)

func num(n int) api.Value { return api.Value{Kind: 1, N: n} }

// read a question.
func read(t *testing.T, s string) api.Query {
	t.Helper()
	q, err := query.Parse("select " + s)
	if err != nil {
		t.Fatalf("%q: %v", s, err)
	}
	return q
}

// begin an engine.
func begin(t *testing.T, q api.Query, parts int) *engine.Engine {
	t.Helper()
	e, err := engine.New(q, parts)
	if err != nil {
		t.Fatal(err)
	}
	return e
}

// anew: an engine of another one's text.
func anew(t *testing.T, e *engine.Engine, q api.Query) *engine.Engine {
	t.Helper()
	f, err := shot.Parse(shot.Text(e), q, len(e.Read))
	if err != nil {
		t.Fatalf("%s: %v", all(e), err)
	}
	return f
}

// none is read: of that text there is no engine.
func none(t *testing.T, what, s string, q api.Query, parts int) {
	t.Helper()
	if e, err := shot.Parse(s, q, parts); e != nil || err != api.ErrText {
		t.Errorf("%s: %.40q: %v, %v", what, s, e, err)
	}
}

func numbers(l []int) string {
	s := ""
	for _, n := range l {
		s += strconv.Itoa(n) + " "
	}
	return s
}

func flag(is bool, yes string) string {
	if is {
		return yes
	}
	return ""
}

// all that an engine has, in plain words.
func all(e *engine.Engine) string {
	s := "read " + numbers(e.Read) + "clock " + numbers(e.Clock.Greatest) + "late " + strconv.Itoa(e.Late)
	for _, p := range e.Table.L {
		s += "\npane " + strconv.Itoa(p.Start) + " " + value.Text(p.Key) + flag(p.Told, " told")
		for _, a := range p.Accs {
			s += " [" + numbers([]int{a.Kind, a.N, a.Sum, a.Best}) + "]"
		}
	}
	for _, r := range e.Rows {
		s += "\nrow " + flag(r.Gone, "gone ") + strconv.Itoa(r.Pane.Start) + " " + value.Text(r.Pane.Key)
		for _, v := range r.Pane.Vals {
			s += " " + value.Text(v)
		}
	}
	return s
}

// some engine: with rows that are gone, panes that were told and others, and what came too late.
func some(t *testing.T) (*engine.Engine, api.Query) {
	t.Helper()
	q := read(t, "count(*), sum(a), min(a), max(b) from events group by k window 10 slide 5 delay 2 late 5")
	e := begin(t, q, 2)
	steps := []struct {
		part int
		x    api.Event
	}{{0, api.Event{Time: 3, K: num(1), A: num(10)}}, {0, api.Event{Time: 7, K: num(2), A: num(5), B: num(-1000)}}, {1, api.Event{Time: 2, K: num(2), A: num(7)}},
		{0, api.Event{Time: 14, K: num(1), A: num(1)}}, {1, api.Event{Time: 18}}, {0, api.Event{Time: 6, K: num(1), A: num(100)}},
		{0, api.Event{Time: 25, K: num(1), A: num(-2)}}, {0, api.Event{Time: 4, K: num(1), A: num(9)}}}
	for _, s := range steps {
		e.Step(s.part, s.x)
	}
	if e.Late == 0 || len(e.Table.L) < 3 || !slices.ContainsFunc(e.Rows, func(r api.Row) bool { return r.Gone }) {
		t.Fatalf("it has too little: %s", all(e))
	}
	return e, q
}

func TestN1New(t *testing.T) {
	q := read(t, "count(*) from events window 5")
	for parts := 1; parts <= api.MaxParts; parts++ {
		e := begin(t, q, parts)
		if f := anew(t, e, q); all(f) != all(e) {
			t.Errorf("%d parts: %s", parts, all(f))
		}
		if shot.Text(e) == "" {
			t.Error("it has no bytes")
		}
	}
}

func TestN1Some(t *testing.T) {
	e, q := some(t)
	was := all(e)
	f := anew(t, e, q)
	if all(f) != was || all(e) != was {
		t.Errorf("%s\n  is not\n%s", all(f), was)
	}
	if shot.Text(f) != shot.Text(e) {
		t.Error("the text of what has the same is another one")
	}
}

// TestN1Sums: a sum beyond Most shows as nothing, but comes back; what is nothing shows so, too.
func TestN1Sums(t *testing.T) {
	q := read(t, "sum(a * 1000000), sum(b), sum(a * 1000000 - b) from events group by k window 10 late 100")
	cases := [][]int{{1000}, {1000, 1}, {1000, 1000, 1000}, {-1000, -1}, {1000, 1, -2}, {-1000, -1000, 1000, 1000}, {1, -1}, {}}
	for _, told := range []bool{false, true} {
		for _, l := range cases {
			e, f := begin(t, q, 1), begin(t, q, 1)
			step := func(x api.Event) {
				f = anew(t, f, q)
				e.Step(0, x)
				f.Step(0, x)
				if all(e) != all(f) {
					t.Fatalf("%v: %s\n  is not\n%s", l, all(f), all(e))
				}
			}
			if told {
				step(api.Event{Time: 50})
			}
			step(api.Event{Time: 3})
			for _, n := range l {
				step(api.Event{Time: 3, A: num(n), B: num(n)})
			}
			step(api.Event{Time: 60})
		}
	}
}

// TestN1NoText: what is no text of an engine isn't read.
func TestN1NoText(t *testing.T) {
	e, q := some(t)
	s := shot.Text(e)
	for _, no := range []string{"", "hay", " ", "\x00", "0", "penstock", "\x80", "\xff\xff\xff", strings.Repeat("\x00", 1000), strings.Repeat("\x80", 1000),
		strings.Repeat("\xff", 1000) + "\x01", strings.Repeat("a", 1<<16)} {
		none(t, "no text", no, q, 2)
	}
	for i := range len(s) {
		none(t, "a text that is cut", s[:i], q, 2)
		none(t, "a text's end", s[i+1:], q, 2)
	}
	for _, more := range []string{"\x00", "a", "\x80", "\xff", s} {
		none(t, "more than a text", s+more, q, 2)
	}
	none(t, "more than a text", "\x00"+s, q, 2)
	none(t, "of other parts", s, q, 1)
	none(t, "of other parts", s, q, 3)
	none(t, "of another question", s, read(t, "count(*) from events window 5"), 2)
}

// TestN1NoQuestion: there is no engine of a question that may not be, nor of no parts, nor of too many.
func TestN1NoQuestion(t *testing.T) {
	e, q := some(t)
	s := shot.Text(e)
	for _, parts := range []int{math.MinInt, -1, 0, 4, math.MaxInt} {
		none(t, "parts", s, q, parts)
		none(t, "parts", "", q, parts)
	}
	none(t, "question", s, api.Query{}, 2)
	q.Slide = 0
	none(t, "question", s, q, 2)
}

// TestN1Looks: texts of engines that no steps led to: their panes aren't rising, or values may not be.
func TestN1Looks(t *testing.T) {
	spoil := map[string]func(e *engine.Engine){
		"panes swapped":  func(e *engine.Engine) { l := e.Table.L; l[0], l[1] = l[1], l[0] },
		"a pane twice":   func(e *engine.Engine) { e.Table.L = append(e.Table.L[:1:1], e.Table.L...) },
		"a great number": func(e *engine.Engine) { e.Rows[0].Pane.Key = num(api.Most + 1) },
		"a third truth":  func(e *engine.Engine) { e.Rows[0].Pane.Vals[0] = api.Value{Kind: 2, N: 2} },
		"a great null":   func(e *engine.Engine) { e.Table.L[0].Key = api.Value{N: 1} },
		"too few vals":   func(e *engine.Engine) { e.Rows[0].Pane.Vals = e.Rows[0].Pane.Vals[1:] },
	}
	for what, f := range spoil {
		e, q := some(t)
		e = anew(t, e, q)
		f(e)
		none(t, what, shot.Text(e), q, 2)
	}
}

// TestN1Changed: of texts in which a byte is another one, or there are many, engines are read whose texts they are, or
// none; they go on.
func TestN1Changed(t *testing.T) {
	e, q := some(t)
	s := shot.Text(e)
	for at := range len(s) {
		for _, by := range []byte{1, 2, 4, 16, 64, 128, 255} {
			changed(t, s[:at]+string([]byte{s[at] ^ by})+s[at+1:], q)
		}
		for _, great := range []string{"\xfe\xff\xff\xff\xff\xff\xff\xff\xff\x01", strings.Repeat("\xff", 9) + "\x01", "\xfe\xff\xff\xff\xff\xff\x1f", "\x80\x01",
			"\x80\x00"} {
			changed(t, s[:at]+great+s[at+1:], q)
			changed(t, s[:at]+great+s[at:], q)
		}
	}
}

// changed text: it is read as it is, or not.
func changed(t *testing.T, s string, q api.Query) {
	t.Helper()
	e, err := shot.Parse(s, q, 2)
	if err != nil {
		if err != api.ErrText || e != nil {
			t.Fatalf("%q: %v, %v", s, e, err)
		}
		return
	}
	if shot.Text(e) != s {
		t.Fatalf("%q: it is read, but as another text", s)
	}
	for time := range 12 {
		e.Step(time%2, api.Event{Time: 5 * time, K: num(time % 3), A: num(time)})
	}
}

// TestZ2Own: an engine shares nothing with the question that it is read with.
func TestZ2Own(t *testing.T) {
	e, q := some(t)
	s := shot.Text(e)
	mine := read(t, query.Text(q)[len("select "):])
	f, err := shot.Parse(s, mine, 2)
	if err != nil {
		t.Fatal(err)
	}
	for i := range mine.Aggs {
		for k := range mine.Aggs[i].Of {
			mine.Aggs[i].Of[k] = api.Node{Op: api.Const}
		}
		mine.Aggs[i] = api.Agg{}
	}
	for k := range mine.By {
		mine.By[k] = api.Node{Op: api.Const}
	}
	x := api.Event{Time: 26, K: num(5), A: num(6), B: num(7)}
	e.Step(1, x)
	f.Step(1, x)
	if all(e) != all(f) {
		t.Errorf("%s\n  is not\n%s", all(f), all(e))
	}
}

// TestZ2Rows: rows that say the same share nothing.
func TestZ2Rows(t *testing.T) {
	e, q := some(t)
	for i := range e.Rows {
		f := anew(t, e, q)
		vals := f.Rows[i].Pane.Vals
		vals = vals[:cap(vals)]
		for k := range vals {
			vals[k] = num(-77)
		}
		f.Rows[i] = e.Rows[i]
		if all(e) != all(f) {
			t.Errorf("row %d shares what it has", i)
		}
	}
}

// TestZ2Text: what stands behind an engine's lists in memory isn't read.
func TestZ2Text(t *testing.T) {
	e, q := some(t)
	s := shot.Text(e)
	f := anew(t, e, q)
	f.Read = append(f.Read, 9)[:2]
	f.Clock.Greatest = append(f.Clock.Greatest, 9)[:2]
	f.Rows = append(f.Rows, api.Row{Gone: true})[:len(f.Rows)]
	f.Table.L = append(f.Table.L, panes.Pane{Told: true})[:len(f.Table.L)]
	if shot.Text(f) != s {
		t.Error("it is another text")
	}
}
