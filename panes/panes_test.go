package panes_test

import (
	"cmp"
	"math"
	"reflect"
	"slices"
	"testing"

	"penstock/api"
	"penstock/gather"
	"penstock/panes"
)

var (
	null = api.Value{}
	no   = api.Value{Kind: 2}
	yes  = api.Value{Kind: 2, N: 1}
)

func num(n int) api.Value { return api.Value{Kind: 1, N: n} }

type die uint64

func (d *die) n(most int) int {
	*d = *d*6364136223846793005 + 1442695040888963407
	return int(uint64(*d>>33) % uint64(most))
}

// out: a pane as it is told.
func out(start int, key api.Value, vals ...api.Value) api.Pane {
	return api.Pane{Start: start, Key: key, Vals: vals}
}

func same(a, b api.Pane) bool {
	return a.Start == b.Start && a.Key == b.Key && slices.Equal(a.Vals, b.Vals)
}

// wantPanes: are they these, and are those told that the text has a 't' of?
func wantPanes(t *testing.T, l []panes.Pane, told string, want ...api.Pane) {
	t.Helper()
	if len(l) != len(want) {
		t.Fatalf("%d panes: %v, %d are wanted: %v", len(l), l, len(want), want)
	}
	for i, p := range l {
		if !same(p.Out(), want[i]) || p.Told != (told[i] == 't') {
			t.Errorf("pane %d: %v, told: %v; %v is wanted, told: %c", i, p.Out(), p.Told, want[i], told[i])
		}
	}
}

// counting: what is counted of a pane's events.
var counting = []int{api.Count}

// counted table: of each window and key one event.
func counted(t *testing.T, at ...int) panes.Table {
	t.Helper()
	var table panes.Table
	for _, start := range at {
		table, _, _ = table.Add(start, null, counting, []api.Value{null})
	}
	return table
}

func TestJ1Out(t *testing.T) {
	accs := []gather.Acc{gather.New(api.Count).Add(null), gather.New(api.Max), gather.New(api.Sum).Add(num(4)).Add(num(5))}
	p := panes.Pane{Start: -5, Key: num(3), Accs: accs, Told: true}
	if o := p.Out(); !same(o, out(-5, num(3), num(1), null, num(9))) {
		t.Errorf("%v", o)
	}
	if o := (panes.Pane{Start: 7, Key: yes}).Out(); !same(o, out(7, yes)) {
		t.Errorf("of nothing gathered: %v", o)
	}
}

func TestJ1Add(t *testing.T) {
	kinds := []int{api.Count, api.CountOf, api.Sum, api.Min, api.Max}
	var empty panes.Table
	one, was, is := empty.Add(10, num(2), kinds, []api.Value{null, num(1), num(4), num(4), num(4)})
	if is || !reflect.DeepEqual(was, panes.Pane{}) {
		t.Errorf("there was no pane, but: %v, %v", was, is)
	}
	first := out(10, num(2), num(1), num(1), num(4), num(4), num(4))
	wantPanes(t, one.L, ".", first)
	wantPanes(t, empty.L, "")

	two, was, is := one.Add(10, num(2), kinds, []api.Value{null, null, num(-6), num(-6), num(-6)})
	if !is {
		t.Error("there was a pane")
	}
	wantPanes(t, []panes.Pane{was}, ".", first)
	wantPanes(t, two.L, ".", out(10, num(2), num(2), num(1), num(-2), num(-6), num(4)))
	wantPanes(t, one.L, ".", first)
	for i, a := range two.L[0].Accs {
		if a.Kind != kinds[i] {
			t.Errorf("what is gathered as number %d is of kind %d, %d is wanted", i, a.Kind, kinds[i])
		}
	}

	// Nothing known is gathered, too, as far as a kind has it; the pane is there.
	three, _, is := two.Add(0, null, kinds, make([]api.Value, 5))
	if is {
		t.Error("of another window there is no pane")
	}
	wantPanes(t, three.L, "..", out(0, null, num(1), num(0), null, null, null), two.L[0].Out())
	// Of no kinds there is a pane, too.
	four, _, is := empty.Add(3, yes, nil, nil)
	wantPanes(t, four.L, ".", out(3, yes))
	if _, was, is = four.Add(3, yes, nil, nil); !is || !same(was.Out(), out(3, yes)) {
		t.Errorf("the pane of no kinds: %v, %v", was, is)
	}
}

// TestJ1Order: by where they begin, then by key: nothing, numbers, truths; whichever came first.
func TestJ1Order(t *testing.T) {
	type place struct {
		start int
		key   api.Value
	}
	var places []place
	for _, start := range []int{math.MinInt, -1000, -5, 0, 5, 9999, math.MaxInt} {
		for _, key := range []api.Value{null, num(-1000000000), num(-1), num(0), num(1), num(2), num(1000000000), no, yes} {
			places = append(places, place{start, key})
		}
	}
	for _, stride := range []int{1, 2, 5, 31, len(places) - 1} {
		var table panes.Table
		var want []api.Pane
		for round := range 2 {
			for i := range places {
				p := places[(i*stride+7)%len(places)]
				next, was, is := table.Add(p.start, p.key, counting, []api.Value{null})
				if is != (round > 0) || is && !same(was.Out(), out(p.start, p.key, num(1))) {
					t.Fatalf("stride %d: %v: %v, %v", stride, p, was, is)
				}
				table = next
			}
		}
		for _, p := range places {
			want = append(want, out(p.start, p.key, num(2)))
		}
		wantPanes(t, table.L, string(make([]byte, len(want))), want...)
	}
}

// TestJ1Told: a new pane isn't told; one that was told stays it, whatever is added.
func TestJ1Told(t *testing.T) {
	table, _ := counted(t, 0, 10).Tell(10, 10)
	next, was, is := table.Add(0, null, counting, []api.Value{null})
	if !is || !was.Told {
		t.Errorf("the pane was told: %v, %v", was, is)
	}
	wantPanes(t, next.L, "t.", out(0, null, num(2)), out(10, null, num(1)))
	next, was, is = next.Add(10, null, counting, []api.Value{null})
	if !is || was.Told {
		t.Errorf("the pane wasn't told: %v, %v", was, is)
	}
	next, was, is = next.Add(0, num(1), counting, []api.Value{null})
	if is || was.Told {
		t.Errorf("there was no pane: %v, %v", was, is)
	}
	wantPanes(t, next.L, "t..", out(0, null, num(2)), out(0, num(1), num(1)), out(10, null, num(2)))
}

func TestJ2Tell(t *testing.T) {
	table := counted(t, -5, 0, 5, 10)
	for _, c := range []struct {
		size, upto int
		told       string
	}{
		{10, -1000, "...."},
		{10, 4, "...."},
		{10, 5, "t..."},
		{10, 6, "t..."},
		{10, 9, "t..."},
		{10, 10, "tt.."},
		{10, 14, "tt.."},
		{10, 15, "ttt."},
		{10, 20, "tttt"},
		{10, 9999, "tttt"},
		{1, -5, "...."},
		{1, -4, "t..."},
		{1, 11, "tttt"},
		{1000, 994, "...."},
		{1000, 995, "t..."},
	} {
		next, l := table.Tell(c.size, c.upto)
		wantPanes(t, next.L, c.told, table.L[0].Out(), table.L[1].Out(), table.L[2].Out(), table.L[3].Out())
		var want []api.Pane
		for i := range table.L {
			if c.told[i] == 't' {
				want = append(want, table.L[i].Out())
			}
		}
		wantPanes(t, l, "tttt", want...)
		again, l := next.Tell(c.size, c.upto)
		wantPanes(t, l, "")
		wantPanes(t, again.L, c.told, table.L[0].Out(), table.L[1].Out(), table.L[2].Out(), table.L[3].Out())
	}
	wantPanes(t, table.L, "....", out(-5, null, num(1)), out(0, null, num(1)), out(5, null, num(1)), out(10, null, num(1)))
	var empty panes.Table
	next, l := empty.Tell(10, 10)
	wantPanes(t, next.L, "")
	wantPanes(t, l, "")
}

// TestJ2TellLater: only those that weren't told are told of, as they are now; what was told stays it.
func TestJ2TellLater(t *testing.T) {
	table, _ := counted(t, 0, 10).Tell(10, 10)
	table, _, _ = table.Add(0, num(1), counting, []api.Value{null})
	table, _, _ = table.Add(0, null, counting, []api.Value{null})
	table, _, _ = table.Add(10, null, counting, []api.Value{null})
	next, l := table.Tell(10, 20)
	wantPanes(t, l, "tt", out(0, num(1), num(1)), out(10, null, num(2)))
	wantPanes(t, next.L, "ttt", out(0, null, num(2)), out(0, num(1), num(1)), out(10, null, num(2)))
	// To tell of less takes nothing back.
	back, l := next.Tell(10, 0)
	wantPanes(t, l, "")
	wantPanes(t, back.L, "ttt", out(0, null, num(2)), out(0, num(1), num(1)), out(10, null, num(2)))
}

// TestJ2Drop: panes that end up to a time, told or not, are gone.
func TestJ2Drop(t *testing.T) {
	table, _ := counted(t, -5, 0, 5, 10).Tell(5, 5)
	for _, c := range []struct{ size, upto, gone int }{
		{10, 4, 0}, {10, 5, 1}, {10, 9, 1}, {10, 10, 2}, {10, 15, 3}, {10, 19, 3}, {10, 20, 4}, {10, 9999, 4}, {1, -4, 1}, {1, 11, 4}, {1000, 994, 0}, {1000, 1010, 4},
	} {
		next := table.Drop(c.size, c.upto)
		var want []api.Pane
		for _, p := range table.L[c.gone:] {
			want = append(want, p.Out())
		}
		wantPanes(t, next.L, "tt.."[c.gone:], want...)
	}
	wantPanes(t, table.L, "tt..", out(-5, null, num(1)), out(0, null, num(1)), out(5, null, num(1)), out(10, null, num(1)))
	var empty panes.Table
	wantPanes(t, empty.Drop(10, 10).L, "")
	// What was dropped is new when it comes again.
	again, was, is := table.Drop(5, 5).Add(0, null, counting, []api.Value{null})
	if is || was.Told {
		t.Errorf("the pane was dropped: %v, %v", was, is)
	}
	wantPanes(t, again.L, "...", out(0, null, num(1)), out(5, null, num(1)), out(10, null, num(1)))
}

// TestJ2Great: an end beyond the greatest number is up to no time, one below the least number is up to all.
func TestJ2Great(t *testing.T) {
	for _, c := range []struct {
		start, size, upto int
		ends              bool
	}{
		{math.MaxInt, 1, math.MaxInt, false},
		{math.MaxInt, math.MaxInt, math.MaxInt, false},
		{math.MaxInt - 1, 1, math.MaxInt, true},
		{math.MaxInt - 1, 1, math.MaxInt - 1, false},
		{math.MaxInt, 0, math.MaxInt, true},
		{math.MaxInt, math.MinInt, -1, true},
		{math.MaxInt, math.MinInt, -2, false},
		{math.MinInt, -1, math.MinInt, true},
		{math.MinInt, math.MinInt, math.MinInt, true},
		{math.MinInt, 0, math.MinInt, true},
		{math.MinInt, 1, math.MinInt, false},
		{math.MinInt, math.MaxInt, -1, true},
		{math.MinInt, math.MaxInt, -2, false},
	} {
		table := counted(t, c.start)
		if _, l := table.Tell(c.size, c.upto); (len(l) > 0) != c.ends {
			t.Errorf("%v: told are %v", c, l)
		}
		if next := table.Drop(c.size, c.upto); (len(next.L) == 0) != c.ends {
			t.Errorf("%v: left are %v", c, next.L)
		}
	}
}

// book: a table by other means: what was added, unsorted.
type book []*entry

type entry struct {
	start int
	key   api.Value
	vals  [][]api.Value
	told  bool
}

func (b book) find(start int, key api.Value) *entry {
	for _, e := range b {
		if e.start == start && e.key == key {
			return e
		}
	}
	return nil
}

// out: what each kind says of all that was added.
func (e *entry) out(kinds []int) api.Pane {
	p := out(e.start, e.key)
	for i, kind := range kinds {
		a := gather.New(kind)
		for _, vals := range e.vals {
			a = a.Add(vals[i])
		}
		p.Vals = append(p.Vals, a.Value())
	}
	return p
}

// rank of a key: nothing, then numbers, then truths.
func rank(v api.Value) int { return v.Kind*4000000000 + v.N }

func (b book) sorted() book {
	l := slices.Clone(b)
	slices.SortFunc(l, func(x, y *entry) int {
		return cmp.Or(cmp.Compare(x.start, y.start), cmp.Compare(rank(x.key), rank(y.key)))
	})
	return l
}

// wantBook: has the table just what the book has?
func wantBook(t *testing.T, l []panes.Pane, b book, kinds []int) {
	t.Helper()
	var want []api.Pane
	told := ""
	for _, e := range b.sorted() {
		want = append(want, e.out(kinds))
		told += map[bool]string{true: "t", false: "."}[e.told]
	}
	wantPanes(t, l, told, want...)
}

// TestJ1J2Drawn: tables, added to, told and dropped from, as it is drawn, held against a book; the tables ahead stay
// as they were.
func TestJ1J2Drawn(t *testing.T) {
	d := die(10)
	for range 300 {
		kinds := make([]int, d.n(5))
		for i := range kinds {
			kinds[i] = 1 + d.n(5)
		}
		var table panes.Table
		var b book
		size, upto := 1+d.n(12), -12
		for range 25 {
			before := deep(table.L)
			old := table
			switch upto += d.n(3); d.n(6) {
			case 0:
				next, l := table.Tell(size, upto)
				var fresh book
				for _, e := range b {
					if !e.told && e.start+size <= upto {
						e.told = true
						fresh = append(fresh, e)
					}
				}
				wantBook(t, l, fresh, kinds)
				table = next
			case 1:
				cut := upto - d.n(8)
				table = table.Drop(size, cut)
				b = slices.DeleteFunc(b, func(e *entry) bool { return e.start+size <= cut })
			default:
				table, b = drawnAdd(t, &d, table, b, kinds)
			}
			wantBook(t, table.L, b, kinds)
			if !reflect.DeepEqual(deep(old.L), before) {
				t.Fatalf("the table was %v, and is %v now", before, old.L)
			}
		}
	}
}

func drawnAdd(t *testing.T, d *die, table panes.Table, b book, kinds []int) (panes.Table, book) {
	t.Helper()
	start, key := 4*(d.n(6)-2), []api.Value{null, num(d.n(3) - 1), no, yes}[d.n(4)]
	vals := make([]api.Value, len(kinds))
	for i := range vals {
		vals[i] = []api.Value{null, num(d.n(9) - 4), num(1000000000)}[d.n(3)]
	}
	next, was, is := table.Add(start, key, kinds, vals)
	e := b.find(start, key)
	if is != (e != nil) {
		t.Fatalf("Add(%d, %v): was there one? %v", start, key, is)
	}
	if e == nil {
		e = &entry{start: start, key: key}
		b = append(b, e)
		if !reflect.DeepEqual(was, panes.Pane{}) {
			t.Errorf("beside false: %v", was)
		}
	} else if !same(was.Out(), e.out(kinds)) || was.Told != e.told {
		t.Errorf("the pane was %v, told: %v; wanted are %v, %v", was.Out(), was.Told, e.out(kinds), e.told)
	}
	e.vals = append(e.vals, vals)
	return next, b
}

// deep copy of panes, which shares nothing with them.
func deep(l []panes.Pane) []panes.Pane {
	c := slices.Clone(l)
	for i := range c {
		c[i].Accs = slices.Clone(c[i].Accs)
	}
	return c
}

// TestZ1: no numbers and values make it panic, nor lists of kinds and of values that don't go together.
func TestZ1(t *testing.T) {
	wild := []int{math.MinInt, -1, 0, 1, 5, math.MaxInt}
	keys := []api.Value{null, yes, num(3), {Kind: 2, N: 2}, {Kind: 7}, {Kind: -1, N: math.MinInt}, {N: 1}, num(math.MaxInt)}
	lists := [][]int{nil, {1}, {1, 5, 3}, {0, -1, 6, math.MaxInt}}
	var table panes.Table
	for _, start := range wild {
		for i, key := range keys {
			for _, kinds := range lists {
				for n := range len(keys) {
					next, _, _ := table.Add(start, key, kinds, keys[:n])
					for _, p := range next.L {
						p.Out()
					}
					if i%2 == 0 {
						table = next
					}
				}
			}
		}
	}
	for _, size := range wild {
		for _, upto := range wild {
			table.Tell(size, upto)
			table.Drop(size, upto)
		}
	}
}

// spoil panes that came out, up to what stands behind them.
func spoil(l []panes.Pane) {
	l = l[:cap(l)]
	for i := range l {
		accs := l[i].Accs[:cap(l[i].Accs)]
		for j := range accs {
			accs[j] = gather.Acc{Kind: api.Count, N: 77}
		}
		l[i] = panes.Pane{Start: 77}
	}
}

// TestZ2: lists that are handed in are neither written nor kept; what comes out is the caller's.
func TestZ2(t *testing.T) {
	kindsRoom, valsRoom := []int{api.Sum, api.Min, api.Max}, []api.Value{num(4), num(6), num(8)}
	kinds, vals := kindsRoom[:2], valsRoom[:2]
	var table panes.Table
	table, _, _ = table.Add(0, null, kinds, vals)
	table, _, _ = table.Add(0, null, kinds, vals)
	table, _, _ = table.Add(5, null, kinds, vals)
	if !slices.Equal(kindsRoom, []int{api.Sum, api.Min, api.Max}) || !slices.Equal(valsRoom, []api.Value{num(4), num(6), num(8)}) {
		t.Errorf("what was handed in is %v, %v now", kindsRoom, valsRoom)
	}
	kinds[0], vals[0], vals[1] = api.Count, yes, yes
	want := []api.Pane{out(0, null, num(8), num(6)), out(5, null, num(4), num(6))}
	wantPanes(t, table.L, "..", want...)

	_, was, _ := table.Add(0, null, kinds, vals)
	spoil([]panes.Pane{was})
	wantPanes(t, table.L, "..", want...)
	next, l := table.Tell(5, 10)
	spoil(l)
	wantPanes(t, table.L, "..", want...)
	wantPanes(t, next.L, "tt", want...)
	o := next.L[0].Out()
	o.Vals[0] = yes
	wantPanes(t, next.L, "tt", want...)

	// The lists of panes themselves are each table's own.
	for _, other := range []panes.Table{table.Drop(5, 0), next.Drop(5, 5), tableOf(table.Tell(5, 0)), tableOf(table.Tell(5, 5))} {
		for i := range other.L {
			other.L[i] = panes.Pane{Start: 77}
		}
		wantPanes(t, table.L, "..", want...)
		wantPanes(t, next.L, "tt", want...)
	}
}

func tableOf(t panes.Table, _ []panes.Pane) panes.Table { return t }

// TestZ2Behind: panes that stand behind a table's list in memory are neither read nor written over.
func TestZ2Behind(t *testing.T) {
	room := counted(t, 0, 5, 10, 15).L
	before := deep(room)
	short := panes.Table{L: room[:2:4]}
	next, was, is := short.Add(10, null, counting, []api.Value{null})
	if is || !reflect.DeepEqual(was, panes.Pane{}) {
		t.Errorf("a pane that isn't in the table: %v, %v", was, is)
	}
	wantPanes(t, next.L, "...", out(0, null, num(1)), out(5, null, num(1)), out(10, null, num(1)))
	next, _, _ = short.Add(-5, null, counting, []api.Value{null})
	wantPanes(t, next.L, "...", out(-5, null, num(1)), out(0, null, num(1)), out(5, null, num(1)))
	_, _, _ = short.Add(5, null, counting, []api.Value{null})
	if _, l := short.Tell(5, 1000); len(l) != 2 {
		t.Errorf("%d panes were told", len(l))
	}
	if l := short.Drop(5, 5).L; len(l) != 1 {
		t.Errorf("%d panes are left", len(l))
	}
	if !reflect.DeepEqual(room, before) {
		t.Errorf("what stands in memory is %v now", room)
	}
}
