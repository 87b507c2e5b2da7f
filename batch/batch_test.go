package batch_test

import (
	"cmp"
	"math"
	"reflect"
	"slices"
	"strconv"
	"strings"
	"testing"

	"penstock/api"
	"penstock/batch"
	"penstock/expr"
	"penstock/fold"
	"penstock/query"
	"penstock/value"
)

func num(n int) api.Value { return api.Value{Kind: 1, N: n} }

// read a question.
func read(t *testing.T, s string) api.Query {
	t.Helper()
	q, err := query.Parse("select " + s)
	if err != nil {
		t.Fatalf("%q: %v", s, err)
	}
	return q
}

// part of a text: events, each its time, and what it has; what isn't said is nothing.
func part(t *testing.T, s string) []api.Event {
	t.Helper()
	var events []api.Event
	for _, text := range strings.Split(s, ";") {
		var l [4]api.Value
		words := strings.Fields(text)
		if len(words) == 0 {
			continue
		}
		for i, word := range words {
			v, err := value.Parse(word)
			if err != nil {
				t.Fatalf("%q: %v", s, err)
			}
			l[i] = v
		}
		events = append(events, api.Event{Time: l[0].N, K: l[1], A: l[2], B: l[3]})
	}
	return events
}

// text of an answer.
func text(l []api.Pane, late int) string {
	s := ""
	for _, p := range l {
		s += strconv.Itoa(p.Start) + " " + value.Text(p.Key)
		for _, v := range p.Vals {
			s += " " + value.Text(v)
		}
		s += "; "
	}
	return s + "late " + strconv.Itoa(late)
}

func TestL1(t *testing.T) {
	for _, c := range []struct {
		q     string
		parts []string
		want  string
	}{
		// Nothing came.
		{"count(*) from events window 10", nil, "late 0"},
		{"count(*) from events window 10", []string{""}, "late 0"},
		{"count(*) from events window 10", []string{"", "", ""}, "late 0"},
		// The document's example.
		{
			"count(*), sum(a) from events where a is not null group by k window 10 slide 5 delay 2 late 5",
			[]string{"3 1 10; 7 2 5; 14 1 1; 6 1 100; 25 1 2; 4 1 9", "2 2 7; 18 2 null; 30 1 3"},
			"-5 1 1 10; -5 2 1 7; 0 1 2 110; 0 2 2 12; 5 1 2 101; 5 2 1 5; 10 1 1 1; 20 1 1 2; 25 1 2 5; 30 1 1 3; late 2",
		},
		// What is asked for, by which key, and of what.
		{"count(*) from events where a > 0 window 10", []string{"1 1 1; 2 1 0; 3 1 null; 4 1 2"}, "0 null 2; late 0"},
		{"count(*) from events where null window 10", []string{"1 1 1; 2 1 0"}, "late 0"},
		{"count(*) from events where false window 10", []string{"1 1 1; 2 1 0"}, "late 0"},
		{"count(*) from events group by k window 10", []string{"1 2; 2 1; 3; 4 -1; 5 1"}, "0 null 1; 0 -1 1; 0 1 2; 0 2 1; late 0"},
		{"count(*) from events group by a < 2 window 10", []string{"1 0 1; 2 0 2; 3 0 null; 4 0 -1"}, "0 null 1; 0 false 1; 0 true 2; late 0"},
		{
			"count(*), count(a), sum(a), min(a) from events window 10",
			[]string{"1 1 5; 2 1 null; 3 1 -2"}, "0 null 3 2 3 -2; late 0",
		},
		{"max(a), count(a < b), sum(b), max(a + b) from events window 10", []string{"1 1 5; 2 1 null 3; 3 1 -2 3"}, "0 null 5 1 6 1; late 0"},
		{"sum(a * a * a) from events group by k window 10", []string{"1 1 1000; 2 1 1000; 3 2 1000; 4 2 -1000"}, "0 1 null; 0 2 0; late 0"},
		// Rising, whichever came first: by window, then by key.
		{"count(*) from events group by k window 10 late 10", []string{"5 2; 4 1", "25 1; 16 2", "3 1; 15 1"}, "0 1 2; 0 2 1; 10 1 1; 10 2 1; 20 1 1; late 0"},
		{"count(*) from events window 8 slide 2", []string{"1"}, "-6 null 1; -4 null 1; -2 null 1; 0 null 1; late 0"},
		{"count(*) from events window 1000 slide 250", []string{"0; 9999"}, "-750 null 1; -500 null 1; -250 null 1; 0 null 1; 9000 null 1; 9250 null 1; 9500 null 1; 9750 null 1; late 0"},
	} {
		var parts [][]api.Event
		for _, s := range c.parts {
			parts = append(parts, part(t, s))
		}
		if got := text(batch.Answer(read(t, c.q), parts)); got != c.want {
			t.Errorf("%s, of %q: %q, wanted is %q", c.q, c.parts, got, c.want)
		}
	}
}

// TestL1TooLate: by the greatest time ahead in its own part, whether that was asked for or not.
func TestL1TooLate(t *testing.T) {
	for _, c := range []struct {
		asked string
		parts []string
		want  string
	}{
		{"window 10", []string{"9; 0"}, "0 null 2; late 0"},
		{"window 10", []string{"10; 0"}, "10 null 1; late 1"},
		{"window 10", []string{"10; 9"}, "10 null 1; late 1"},
		{"window 10", []string{"10; 10; 11; 10"}, "10 null 4; late 0"},
		{"window 10", []string{"12; 3; 9"}, "10 null 1; late 2"},
		{"window 10 delay 2", []string{"11; 9"}, "0 null 1; 10 null 1; late 0"},
		{"window 10 delay 2", []string{"12; 9"}, "10 null 1; late 1"},
		{"window 10 late 5", []string{"14; 9"}, "0 null 1; 10 null 1; late 0"},
		{"window 10 late 5", []string{"15; 9"}, "10 null 1; late 1"},
		{"window 10 delay 2 late 5", []string{"16; 9"}, "0 null 1; 10 null 1; late 0"},
		{"window 10 delay 2 late 5", []string{"17; 9"}, "10 null 1; late 1"},
		{"window 1000 delay 1000 late 1000", []string{"2999; 999"}, "0 null 1; 2000 null 1; late 0"},
		{"window 1000 delay 1000 late 1000", []string{"3000; 999"}, "3000 null 1; late 1"},
		{"window 1", []string{"9999; 9999; 9998"}, "9999 null 2; late 1"},
		// Of some windows, not of others.
		{"window 8 slide 2", []string{"5; 1"}, "-2 null 2; 0 null 2; 2 null 1; 4 null 1; late 2"},
		{"window 8 slide 2", []string{"8; 1"}, "2 null 1; 4 null 1; 6 null 1; 8 null 1; late 4"},
		// Other parts have no say in it.
		{"window 10", []string{"5; 90", "3; 4"}, "0 null 3; 90 null 1; late 0"},
		{"window 10", []string{"90", "3"}, "0 null 1; 90 null 1; late 0"},
		{"window 10", []string{"90; 3", "3", "90; 3"}, "0 null 1; 90 null 2; late 2"},
		{"window 10", []string{"", "90; 3", ""}, "90 null 1; late 1"},
		// What isn't asked for isn't too late; it is ahead, for all that.
		{"where a = 1 window 10", []string{"50 1 1; 0 1 2; 0 1 null"}, "50 null 1; late 0"},
		{"where a = 1 window 10", []string{"50 1 2; 0 1 1"}, "late 1"},
	} {
		var parts [][]api.Event
		for _, s := range c.parts {
			parts = append(parts, part(t, s))
		}
		if got := text(batch.Answer(read(t, "count(*) from events "+c.asked), parts)); got != c.want {
			t.Errorf("%s, of %q: %q, wanted is %q", c.asked, c.parts, got, c.want)
		}
	}
}

// die: numbers that look drawn, the same each time.
type die uint64

func (d *die) n(most int) int {
	*d = *d*6364136223846793005 + 1442695040888963407
	return int(uint64(*d>>33) % uint64(most))
}

func (d *die) word(words ...string) string { return words[d.n(len(words))] }

// drawnQuery: a question that may be.
func drawnQuery(t *testing.T, d *die) api.Query {
	t.Helper()
	s := ""
	for i := range 1 + d.n(4) {
		if i > 0 {
			s += ", "
		}
		s += d.word("count(*)", "count(a)", "count(a < b)", "sum(a)", "sum(a * b - k)", "min(a)", "max(b + t * 2)", "sum(a * 600000000)", "max(null)",
			"count(a > 0 and null)", "sum(a * 1 + (2 - 2))", "min(-(-a))")
	}
	s += " from events " + d.word("", "", "where a > 0", "where a is not null and b < 3", "where not (a = b) or k = 1", "where true and a > 0",
		"where not not a > 0 or null", "where null", "where k <> 1 or a is null")
	s += " " + d.word("", "", "group by k", "group by k", "group by a < b", "group by k * 1 + 0", "group by b is null", "group by null + k")
	size := 1 + d.n(12)
	least := (size + 3) / 4
	s += " window " + strconv.Itoa(size) + " slide " + strconv.Itoa(least+d.n(size-least+1))
	s += " delay " + strconv.Itoa(d.n(3)*d.n(6)) + " late " + strconv.Itoa(d.n(3)*d.n(15))
	return read(t, s)
}

// drawnParts: events of some parts; their times go on, most often.
func drawnParts(d *die) [][]api.Event {
	parts := make([][]api.Event, 1+d.n(3))
	field := func() api.Value { return []api.Value{{}, num(d.n(3)), num(d.n(9) - 4)}[d.n(3)] }
	for i := range parts {
		greatest := d.n(9)
		for range d.n(41) {
			at := max(greatest+d.n(7)-d.n(2)*d.n(16), 0)
			greatest = max(greatest, at)
			parts[i] = append(parts[i], api.Event{Time: at, K: field(), A: field(), B: field()})
		}
	}
	return parts
}

// place of a pane.
type place struct {
	start int
	key   api.Value
}

// plainly: an answer by other means: all windows are gone through, and all values are kept until the end.
func plainly(q api.Query, parts [][]api.Event) ([]api.Pane, int) {
	vals := map[place][][]api.Value{}
	late := 0
	for _, l := range parts {
		for i, x := range l {
			if len(q.Where) > 0 && expr.Eval(q.Where, x) != (api.Value{Kind: api.Truth, N: 1}) {
				continue
			}
			at := place{}
			if len(q.By) > 0 {
				at.key = expr.Eval(q.By, x)
			}
			var has []api.Value
			for _, a := range q.Aggs {
				if a.Kind == api.Count {
					has = append(has, num(1))
				} else {
					has = append(has, expr.Eval(a.Of, x))
				}
			}
			for n := -1000; n*q.Slide <= x.Time; n++ {
				at.start = n * q.Slide
				if x.Time >= at.start+q.Size {
					continue
				}
				if isLate(q, at.start, l[:i]) {
					late++
				} else {
					vals[at] = append(vals[at], has)
				}
			}
		}
	}
	var panes []api.Pane
	for at, l := range vals {
		p := api.Pane{Start: at.start, Key: at.key}
		for i, a := range q.Aggs {
			p.Vals = append(p.Vals, together(a.Kind, i, l))
		}
		panes = append(panes, p)
	}
	slices.SortFunc(panes, func(p, q api.Pane) int {
		return cmp.Or(p.Start-q.Start, cmp.Compare(p.Key.Kind, q.Key.Kind), cmp.Compare(p.Key.N, q.Key.N))
	})
	return panes, late
}

// isLate: is one of the events ahead so great that the window is known?
func isLate(q api.Query, start int, ahead []api.Event) bool {
	return slices.ContainsFunc(ahead, func(x api.Event) bool { return start+q.Size+q.Late <= x.Time-q.Delay })
}

// together: number i of each of some values, put together.
func together(kind, i int, l [][]api.Value) api.Value {
	var known []int
	sum := 0
	for _, vals := range l {
		if vals[i].Kind != api.Null {
			known = append(known, vals[i].N)
			sum += vals[i].N
		}
	}
	switch {
	case kind == api.Count || kind == api.CountOf:
		return num(len(known))
	case len(known) == 0 || kind == api.Sum && (sum > api.Most || sum < -api.Most):
		return api.Value{}
	case kind == api.Sum:
		return num(sum)
	case kind == api.Min:
		return num(slices.Min(known))
	}
	return num(slices.Max(known))
}

func TestL1Drawn(t *testing.T) {
	d := die(12)
	panes, lates := 0, 0
	for range 400 {
		q, parts := drawnQuery(t, &d), drawnParts(&d)
		got, late := batch.Answer(q, parts)
		if g, w := text(got, late), text(plainly(q, parts)); g != w {
			t.Fatalf("%s, of %v: %q, wanted is %q", query.Text(q), parts, g, w)
		}
		panes, lates = panes+len(got), lates+late
	}
	if panes < 4000 || lates < 1000 {
		t.Errorf("only %d panes, %d times too late", panes, lates)
	}
}

// TestL1Limits: as many parts, events, windows and things gathered as there may be.
func TestL1Limits(t *testing.T) {
	q := read(t, "count(*), sum(a), min(a), max(b) from events group by k window 1000 slide 250 delay 1000 late 1000")
	parts := make([][]api.Event, api.MaxParts)
	for i := range parts {
		for n := range api.MaxEvents {
			at := n * 256
			if n%2 > 0 {
				at = api.MaxTime - at
			}
			parts[i] = append(parts[i], api.Event{Time: at, K: num(n%7 - 1000), A: num(1000 - n), B: num(n - 1000)})
		}
	}
	if got, want := text(batch.Answer(q, parts)), text(plainly(q, parts)); got != want {
		t.Errorf("%q, wanted is %q", got, want)
	}
}

// TestW3: an answer has the same panes in whichever order its parts are; how often it is too late hangs on each part
// alone.
func TestW3(t *testing.T) {
	d := die(13)
	for range 200 {
		q, parts := drawnQuery(t, &d), drawnParts(&d)
		want, late := batch.Answer(q, parts)
		back := slices.Clone(parts)
		slices.Reverse(back)
		if got, n := batch.Answer(q, back); text(got, n) != text(want, late) {
			t.Fatalf("%s, of %v: %q, the other way round %q", query.Text(q), parts, text(want, late), text(got, n))
		}
		for _, l := range parts {
			_, n := batch.Answer(q, [][]api.Event{l})
			late -= n
		}
		if late != 0 {
			t.Fatalf("%s, of %v: %d times more too late than its parts", query.Text(q), parts, late)
		}
	}
}

// TestW5: a question whose expressions say the same with less has the same answer.
func TestW5(t *testing.T) {
	d := die(14)
	less := 0
	for range 300 {
		q, parts := drawnQuery(t, &d), drawnParts(&d)
		f := q
		f.Aggs = slices.Clone(q.Aggs)
		for i, a := range q.Aggs {
			if a.Kind != api.Count {
				f.Aggs[i].Of = fold.Fold(a.Of)
			}
		}
		if len(q.Where) > 0 {
			f.Where = fold.Fold(q.Where)
		}
		if len(q.By) > 0 {
			f.By = fold.Fold(q.By)
		}
		if got, want := text(batch.Answer(f, parts)), text(batch.Answer(q, parts)); got != want {
			t.Fatalf("%s: %q, with less: %q", query.Text(q), want, got)
		}
		if query.Text(f) != query.Text(q) {
			less++
		}
	}
	if less < 100 {
		t.Errorf("only %d questions can be said with less", less)
	}
}

// TestZ1: to a question that may not be there is no answer; events that may not be are passed over; as many parts as
// one likes may be handed in.
func TestZ1(t *testing.T) {
	good := read(t, "count(*), sum(a) from events group by k window 10 late 5")
	one := [][]api.Event{{{Time: 3, A: num(5)}}}
	field := []api.Node{{Op: api.Field, N: 2}}
	for i, change := range []func(q *api.Query){
		func(q *api.Query) { *q = api.Query{} },
		func(q *api.Query) { q.Aggs = nil },
		func(q *api.Query) { q.Aggs = make([]api.Agg, 5) },
		func(q *api.Query) { q.Aggs = []api.Agg{{Kind: api.Sum}} },
		func(q *api.Query) { q.Aggs = []api.Agg{{Kind: math.MinInt, Of: field}} },
		func(q *api.Query) { q.Where = field },
		func(q *api.Query) { q.Where = []api.Node{{Op: api.And, X: -1, Y: math.MaxInt}} },
		func(q *api.Query) { q.By = []api.Node{{Op: 99}} },
		func(q *api.Query) { q.By = []api.Node{{Op: api.Field, N: 4}} },
		func(q *api.Query) { q.Size = 0 },
		func(q *api.Query) { q.Slide = 0 },
		func(q *api.Query) { q.Slide = -1 },
		func(q *api.Query) { q.Size, q.Slide = math.MaxInt, 1 },
		func(q *api.Query) { q.Slide = 2 },
		func(q *api.Query) { q.Slide = 11 },
		func(q *api.Query) { q.Delay = math.MinInt },
		func(q *api.Query) { q.Delay = math.MaxInt },
		func(q *api.Query) { q.Late = math.MaxInt },
		func(q *api.Query) { q.Late = -1 },
	} {
		q := good
		change(&q)
		if got, late := batch.Answer(q, one); len(got) > 0 || late != 0 {
			t.Errorf("question %d: %v, %d", i, got, late)
		}
	}
	var wild []api.Event
	for _, at := range []int{math.MinInt, -1, 10000, math.MaxInt} {
		wild = append(wild, api.Event{Time: at})
	}
	for _, v := range []api.Value{
		num(1001), num(-1001), num(math.MaxInt), {Kind: 2}, {Kind: 2, N: 1}, {Kind: 3}, {Kind: -1, N: math.MinInt}, {N: 1},
	} {
		wild = append(wild, api.Event{Time: 100, K: v}, api.Event{Time: 100, A: v}, api.Event{Time: 100, B: v})
	}
	parts := [][]api.Event{slices.Concat(wild, one[0], wild, one[0], wild), wild}
	if got, want := text(batch.Answer(good, parts)), "0 null 2 10; late 0"; got != want {
		t.Errorf("%q, wanted is %q", got, want)
	}
	parts = slices.Repeat(one, 9)
	if got, want := text(batch.Answer(good, parts)), "0 null 9 45; late 0"; got != want {
		t.Errorf("%q, wanted is %q", got, want)
	}
}

// TestZ2: nothing that is handed in is written into, nor what stands behind it; no two lists of an answer share
// memory, and an answer hangs on nothing that was answered before.
func TestZ2(t *testing.T) {
	q := read(t, "sum(a), count(b) from events where a is not null group by k window 10 slide 5")
	roomy := func(l []api.Node) []api.Node { return append(slices.Clone(l), api.Node{Op: 99})[:len(l)] }
	for i := range q.Aggs {
		q.Aggs[i].Of = roomy(q.Aggs[i].Of)
	}
	q.Where, q.By = roomy(q.Where), roomy(q.By)
	q.Aggs = append(q.Aggs, api.Agg{Kind: 77})[:2]
	long := part(t, "3 1 10; 7 2 5 1; 14 1 1; 6 1 100; 99 9 9 9")
	parts := [][]api.Event{long[:4], part(t, "2 2 7; 18 2; 30 1 3"), part(t, "1 1 1")}[:2]
	type handed struct {
		aggs      []api.Agg
		where, by []api.Node
		of        [][]api.Node
		parts     [][]api.Event
		first     []api.Event
	}
	look := func() handed {
		h := handed{slices.Clone(q.Aggs[:3]), slices.Clone(q.Where[:len(q.Where)+1]), slices.Clone(q.By[:len(q.By)+1]), nil, nil, slices.Clone(long)}
		for _, a := range q.Aggs {
			h.of = append(h.of, slices.Clone(a.Of[:len(a.Of)+1]))
		}
		for _, l := range parts[:3] {
			h.parts = append(h.parts, slices.Clone(l))
		}
		return h
	}
	was := look()
	got, late := batch.Answer(q, parts)
	want := text(got, late)
	if !reflect.DeepEqual(look(), was) {
		t.Errorf("what was handed in is another one: %v, it was %v", look(), was)
	}
	for i := range got {
		vals := got[i].Vals[:cap(got[i].Vals)]
		kept := slices.Clone(got[i].Vals)
		for k := range vals {
			vals[k] = num(-99)
		}
		got[i].Vals = kept
		if now := text(got, late); now != want {
			t.Fatalf("pane %d shares its list: %q, wanted is %q", i, now, want)
		}
	}
	clear(got[:cap(got)])
	if again := text(batch.Answer(q, parts)); again != want {
		t.Errorf("again: %q, wanted is %q", again, want)
	}
}
