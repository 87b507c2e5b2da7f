package query_test

import (
	"math"
	"slices"
	"strings"
	"testing"

	"penstock/api"
	"penstock/expr"
	"penstock/query"
)

var (
	null = api.Value{}
	no   = api.Value{Kind: 2}
	yes  = api.Value{Kind: 2, N: 1}
)

func num(n int) api.Value { return api.Value{Kind: 1, N: n} }

func lit(v api.Value) []api.Node { return []api.Node{{Op: api.Const, Val: v}} }

func field(n int) []api.Node { return []api.Node{{Op: api.Field, N: n}} }

func one(op int, x []api.Node) []api.Node { return expr.Join(op, x, nil) }

func two(op int, x, y []api.Node) []api.Node { return expr.Join(op, x, y) }

// fields by their names.
var t0, k, a, b = field(0), field(1), field(2), field(3)

// die: numbers that look drawn, the same each time.
type die uint64

func (d *die) n(most int) int {
	*d = *d*6364136223846793005 + 1442695040888963407
	return int(uint64(*d>>33) % uint64(most))
}

// plain: a question that may be.
func plain() api.Query {
	return api.Query{Aggs: []api.Agg{{Kind: api.Count}}, Size: 10, Slide: 10}
}

// of: a question with these to be gathered.
func of(aggs ...api.Agg) api.Query {
	q := plain()
	q.Aggs = aggs
	return q
}

// where, and by: a question with such a part.
func where(l []api.Node) api.Query {
	q := plain()
	q.Where = l
	return q
}

func by(l []api.Node) api.Query {
	q := plain()
	q.By = l
	return q
}

// window: a question with these numbers.
func window(size, slide, delay, late int) api.Query {
	q := plain()
	q.Size, q.Slide, q.Delay, q.Late = size, slide, delay, late
	return q
}

// same: two questions that ask the same (an empty list may be nil or not).
func same(p, q api.Query) bool {
	return slices.EqualFunc(p.Aggs, q.Aggs, func(x, y api.Agg) bool {
		return x.Kind == y.Kind && slices.Equal(x.Of, y.Of)
	}) && slices.Equal(p.Where, q.Where) && slices.Equal(p.By, q.By) &&
		p.Size == q.Size && p.Slide == q.Slide && p.Delay == q.Delay && p.Late == q.Late
}

// chain of a field and so many nodes over it, which have truths if op is Not.
func chain(op, nodes int) []api.Node {
	l := slices.Clone(a)
	if op == api.Not {
		l = lit(null)
	}
	for len(l) < nodes {
		l = one(op, l)
	}
	return l
}

func wantCheck(t *testing.T, what string, q api.Query, want error) {
	t.Helper()
	if err := query.Check(q); err != want {
		t.Errorf("%s: Check(%v) = %v, %v is wanted", what, q, err, want)
	}
}

func TestE1Aggs(t *testing.T) {
	count := api.Agg{Kind: api.Count}
	wantCheck(t, "one", of(count), nil)
	wantCheck(t, "four", of(count, count, count, count), nil)
	wantCheck(t, "none", of(), api.ErrMany)
	wantCheck(t, "no list", api.Query{}, api.ErrMany)
	wantCheck(t, "five", of(count, count, count, count, count), api.ErrMany)
	wantCheck(t, "many wrong ones", of(make([]api.Agg, 5)...), api.ErrMany)
	wantCheck(t, "an empty expression", of(api.Agg{Kind: api.Count, Of: []api.Node{}}), nil)
	wantCheck(t, "count of all, with an expression", of(api.Agg{Kind: api.Count, Of: a}), api.ErrShape)
	wantCheck(t, "count of all, with a wrong one", of(api.Agg{Kind: api.Count, Of: field(4)}), api.ErrShape)
	for _, kind := range []int{0, -1, 6, math.MaxInt, math.MinInt} {
		wantCheck(t, "no such kind", of(api.Agg{Kind: kind, Of: a}), api.ErrShape)
		wantCheck(t, "no such kind", of(api.Agg{Kind: kind}), api.ErrShape)
		wantCheck(t, "no such kind, and a wrong expression", of(api.Agg{Kind: kind, Of: field(4)}), api.ErrShape)
		wantCheck(t, "no such kind, and a great expression", of(api.Agg{Kind: kind, Of: chain(api.Neg, 41)}), api.ErrShape)
	}
}

func TestE1Kinds(t *testing.T) {
	for kind := api.CountOf; kind <= api.Max; kind++ {
		truth := error(api.ErrShape)
		if kind == api.CountOf {
			truth = nil
		}
		for i, c := range []struct {
			l    []api.Node
			want error
		}{
			{a, nil},
			{lit(num(-7)), nil},
			{lit(null), nil},
			{chain(api.Neg, 40), nil},
			{lit(yes), truth},
			{one(api.IsNull, a), truth},
			{two(api.Less, a, b), truth},
			{one(api.Not, lit(null)), truth},
			{nil, api.ErrShape},
			{[]api.Node{}, api.ErrShape},
			{slices.Concat(a, b), api.ErrShape},
			{field(4), api.ErrBound},
			{field(-1), api.ErrBound},
			{lit(num(api.Most + 1)), api.ErrShape},
			{chain(api.Neg, 41), api.ErrMany},
			{one(api.Not, a), api.ErrShape},
			{two(api.Add, a, lit(no)), api.ErrShape},
			{one(api.IsNull, one(api.Not, a)), api.ErrShape},
		} {
			if err := query.Check(of(api.Agg{Kind: kind, Of: c.l})); err != c.want {
				t.Errorf("%d: kind %d of %v: %v, %v is wanted", i, kind, c.l, err, c.want)
			}
		}
	}
}

func TestE1WhereAndBy(t *testing.T) {
	for i, c := range []struct {
		l         []api.Node
		where, by error
	}{
		{nil, nil, nil},
		{[]api.Node{}, nil, nil},
		{lit(yes), nil, nil},
		{lit(null), nil, nil},
		{two(api.Same, k, a), nil, nil},
		{one(api.IsNull, k), nil, nil},
		{chain(api.Not, 40), nil, nil},
		{k, api.ErrShape, nil},
		{lit(num(0)), api.ErrShape, nil},
		{two(api.Mul, k, a), api.ErrShape, nil},
		{one(api.Neg, lit(null)), api.ErrShape, nil},
		{field(4), api.ErrBound, api.ErrBound},
		{[]api.Node{{}}, api.ErrShape, api.ErrShape},
		{slices.Concat(a, a), api.ErrShape, api.ErrShape},
		{chain(api.Not, 41), api.ErrMany, api.ErrMany},
		{chain(api.Neg, 41), api.ErrMany, api.ErrMany},
		{two(api.And, a, lit(yes)), api.ErrShape, api.ErrShape},
		{two(api.Less, a, lit(yes)), api.ErrShape, api.ErrShape},
	} {
		if err := query.Check(where(c.l)); err != c.where {
			t.Errorf("%d: where %v: %v, %v is wanted", i, c.l, err, c.where)
		}
		if err := query.Check(by(c.l)); err != c.by {
			t.Errorf("%d: group by %v: %v, %v is wanted", i, c.l, err, c.by)
		}
	}
}

// TestE1Windows: all edges of the four numbers, each with each.
func TestE1Windows(t *testing.T) {
	spans := []int{math.MinInt, -1, 0, 1, 2, 4, 5, 249, 250, 251, 999, 1000, 1001, math.MaxInt/4 + 1, math.MaxInt}
	waits := []int{math.MinInt, -1, 0, 1, 1000, 1001, math.MaxInt}
	in := func(n, least int) bool { return least <= n && n <= 1000 }
	for _, size := range spans {
		for _, slide := range spans {
			for _, delay := range waits {
				for _, late := range waits {
					var want error
					switch {
					case !in(size, 1) || !in(slide, 1) || !in(delay, 0) || !in(late, 0):
						want = api.ErrBound
					case slide > size || size > 4*slide:
						want = api.ErrShape
					}
					wantCheck(t, "window", window(size, slide, delay, late), want)
				}
			}
		}
	}
}

// TestE1Order: where several things are wrong, the first one is told.
func TestE1Order(t *testing.T) {
	shape, bound, many := one(api.Not, a), field(4), chain(api.Neg, 41)
	wrong := func(l []api.Node) api.Agg { return api.Agg{Kind: api.Min, Of: l} }
	none := api.Agg{Kind: 9}
	with := func(where, by []api.Node, size, slide int, aggs ...api.Agg) api.Query {
		return api.Query{Aggs: aggs, Where: where, By: by, Size: size, Slide: slide}
	}
	wantCheck(t, "none, and all else", with(shape, bound, 0, 0), api.ErrMany)
	wantCheck(t, "the first agg", with(nil, nil, 10, 10, wrong(bound), none), api.ErrBound)
	wantCheck(t, "the first agg", with(nil, nil, 10, 10, none, wrong(bound)), api.ErrShape)
	wantCheck(t, "the first agg", with(nil, nil, 10, 10, wrong(many), wrong(bound)), api.ErrMany)
	wantCheck(t, "the first agg", with(nil, nil, 10, 10, wrong(shape), wrong(bound)), api.ErrShape)
	wantCheck(t, "the first agg", with(nil, nil, 10, 10, wrong(lit(yes)), wrong(bound)), api.ErrShape)
	wantCheck(t, "a second agg", with(nil, nil, 10, 10, wrong(a), wrong(bound)), api.ErrBound)
	wantCheck(t, "an agg, where", with(bound, many, 0, 0, none), api.ErrShape)
	wantCheck(t, "an agg, where", with(shape, many, 0, 0, wrong(bound)), api.ErrBound)
	wantCheck(t, "where, by", with(shape, bound, 10, 10, wrong(a)), api.ErrShape)
	wantCheck(t, "where, by", with(a, bound, 10, 10, wrong(a)), api.ErrShape)
	wantCheck(t, "where, by", with(bound, shape, 10, 10, wrong(a)), api.ErrBound)
	wantCheck(t, "where, window", with(a, nil, 0, 0, wrong(a)), api.ErrShape)
	wantCheck(t, "by, window", with(nil, shape, 0, 0, wrong(a)), api.ErrShape)
	wantCheck(t, "by, window", with(nil, bound, 10, 1, wrong(a)), api.ErrBound)
	wantCheck(t, "window, slide", with(nil, nil, 1, 1001, wrong(a)), api.ErrBound)
}

// TestE2Expressions: in a question as what is grouped by, since that may be of each type.
func TestE2Expressions(t *testing.T) {
	for _, c := range []struct {
		l    []api.Node
		want string
	}{
		{t0, "t"},
		{k, "k"},
		{a, "a"},
		{b, "b"},
		{lit(null), "null"},
		{lit(no), "false"},
		{lit(yes), "true"},
		{lit(num(0)), "0"},
		{lit(num(7)), "7"},
		{lit(num(1000000000)), "1000000000"},
		{lit(num(-1)), "(0 - 1)"},
		{lit(num(-1000000000)), "(0 - 1000000000)"},
		{one(api.Neg, a), "(- a)"},
		{one(api.Neg, lit(num(-3))), "(- (0 - 3))"},
		{one(api.Neg, lit(num(3))), "(- 3)"},
		{one(api.Not, lit(yes)), "(not true)"},
		{one(api.IsNull, k), "(k is null)"},
		{two(api.Add, a, b), "(a + b)"},
		{two(api.Sub, a, b), "(a - b)"},
		{two(api.Mul, a, b), "(a * b)"},
		{two(api.And, lit(yes), lit(no)), "(true and false)"},
		{two(api.Or, lit(yes), lit(no)), "(true or false)"},
		{two(api.Less, a, b), "(a < b)"},
		{two(api.Same, a, b), "(a = b)"},
		{two(api.Sub, two(api.Sub, a, b), two(api.Sub, k, t0)), "((a - b) - (k - t))"},
		{one(api.Not, one(api.Not, one(api.IsNull, one(api.Neg, one(api.Neg, a))))), "(not (not ((- (- a)) is null)))"},
		{two(api.Or, two(api.And, two(api.Less, a, lit(num(1))), one(api.IsNull, b)), two(api.Same, k, lit(num(-2)))), "(((a < 1) and (b is null)) or (k = (0 - 2)))"},
	} {
		want := "select count(*) from events group by " + c.want + " window 10 slide 10 delay 0 late 0"
		if s := query.Text(by(c.l)); s != want {
			t.Errorf("Text with %v: %q, %q is wanted", c.l, s, want)
		}
	}
}

func TestE2Questions(t *testing.T) {
	full := api.Query{
		Aggs:  []api.Agg{{Kind: api.Max, Of: a}, {Kind: api.CountOf, Of: lit(yes)}, {Kind: api.Min, Of: two(api.Add, a, b)}, {Kind: api.Sum, Of: lit(null)}},
		Where: two(api.Less, a, lit(num(3))), By: k, Size: 1000, Slide: 250, Delay: 7, Late: 1000,
	}
	for _, c := range []struct {
		q    api.Query
		want string
	}{
		{plain(), "select count(*) from events window 10 slide 10 delay 0 late 0"},
		{window(4, 1, 2, 3), "select count(*) from events window 4 slide 1 delay 2 late 3"},
		{where(lit(yes)), "select count(*) from events where true window 10 slide 10 delay 0 late 0"},
		{by(k), "select count(*) from events group by k window 10 slide 10 delay 0 late 0"},
		{of(api.Agg{Kind: api.Count}, api.Agg{Kind: api.CountOf, Of: a}), "select count(*), count(a) from events window 10 slide 10 delay 0 late 0"},
		{full, "select max(a), count(true), min((a + b)), sum(null) from events where (a < 3) group by k window 1000 slide 250 delay 7 late 1000"},
	} {
		if s := query.Text(c.q); s != c.want {
			t.Errorf("Text(%v) = %q, %q is wanted", c.q, s, c.want)
		}
	}
}

// TestE2Long: a text may be longer than one that is read.
func TestE2Long(t *testing.T) {
	q := of(api.Agg{Kind: api.Sum, Of: chain(api.Neg, 40)})
	q.Aggs = append(q.Aggs, q.Aggs[0], q.Aggs[0], q.Aggs[0])
	each := "sum(" + strings.Repeat("(- ", 39) + "a" + strings.Repeat(")", 39) + ")"
	want := "select " + strings.Join([]string{each, each, each, each}, ", ") + " from events window 10 slide 10 delay 0 late 0"
	if s := query.Text(q); s != want {
		t.Errorf("%q, %q is wanted", s, want)
	}
}

// TestZ1Questions: none makes a call panic, however wrong it is, and all calls end.
func TestZ1Questions(t *testing.T) {
	d := die(8)
	odd := []int{0, 1, 2, 3, 5, -1, 39, 40, math.MaxInt, math.MinInt}
	list := func() []api.Node {
		l := make([]api.Node, d.n(5)*d.n(12))
		for i := range l {
			l[i] = api.Node{Op: d.n(15) - 1, X: odd[d.n(10)], Y: odd[d.n(10)], N: odd[d.n(10)], Val: api.Value{Kind: d.n(4), N: odd[d.n(10)]}}
		}
		return l
	}
	for range 5000 {
		q := api.Query{Aggs: make([]api.Agg, d.n(6)), Where: list(), By: list(), Size: odd[d.n(10)], Slide: odd[d.n(10)], Delay: odd[d.n(10)], Late: odd[d.n(10)]}
		for i := range q.Aggs {
			q.Aggs[i] = api.Agg{Kind: d.n(8) - 1, Of: list()}
		}
		query.Text(q)
		if err := query.Check(q); err != nil && err != api.ErrMany && err != api.ErrShape && err != api.ErrBound {
			t.Fatalf("Check(%v) = %v", q, err)
		}
	}
	// Each node is twice in the next one: its text would be longer than memory is.
	l := slices.Clone(a)
	for i := range 39 {
		l = append(l, api.Node{Op: api.Add, X: i, Y: i})
	}
	query.Text(by(l))
	query.Text(api.Query{})
	query.Text(of(make([]api.Agg, 1000)...))
}

// roomy: the same list, with other nodes behind it in memory.
func roomy(l []api.Node) []api.Node {
	return append(slices.Clone(l), api.Node{Op: 99, X: 5}, api.Node{Op: 98})[:len(l)]
}

// TestZ2Handed: what is handed in is neither written into nor read beyond its end.
func TestZ2Handed(t *testing.T) {
	q := api.Query{Aggs: []api.Agg{{Kind: api.Sum, Of: roomy(two(api.Sub, a, lit(num(-2))))}, {Kind: 77}}[:1], Where: roomy(one(api.IsNull, k)), By: roomy(k), Size: 9, Slide: 3}
	was := api.Query{Aggs: []api.Agg{{Kind: api.Sum, Of: two(api.Sub, a, lit(num(-2)))}}, Where: one(api.IsNull, k), By: field(1), Size: 9, Slide: 3}
	for range 2 {
		wantCheck(t, "with more behind", q, nil)
		if s := query.Text(q); s != "select sum((a - (0 - 2))) from events where (k is null) group by k window 9 slide 3 delay 0 late 0" {
			t.Errorf("Text = %q", s)
		}
		if !same(q, was) {
			t.Errorf("it is %v now", q)
		}
	}
	for _, l := range [][]api.Node{q.Aggs[0].Of, q.Where, q.By} {
		if rest := l[len(l) : len(l)+2]; rest[0] != (api.Node{Op: 99, X: 5}) || rest[1] != (api.Node{Op: 98}) {
			t.Errorf("behind a list stands %v", rest)
		}
	}
	if rest := q.Aggs[:2]; rest[1].Kind != 77 {
		t.Errorf("behind what is gathered stands %v", rest[1])
	}
}
