package fold_test

import (
	"math"
	"slices"
	"testing"

	"penstock/api"
	"penstock/expr"
	"penstock/fold"
)

var (
	null = api.Value{}
	no   = api.Value{Kind: 2}
	yes  = api.Value{Kind: 2, N: 1}
)

func num(n int) api.Value { return api.Value{Kind: 1, N: n} }

func lit(v api.Value) []api.Node { return []api.Node{{Op: api.Const, Val: v}} }

func field(n int) []api.Node { return []api.Node{{Op: api.Field, N: n}} }

func one(op int, x []api.Node) []api.Node { return expr.Join(op, x, nil) }

func two(op int, x, y []api.Node) []api.Node { return expr.Join(op, x, y) }

// die: numbers that look drawn, the same each time.
type die uint64

func (d *die) n(most int) int {
	*d = *d*6364136223846793005 + 1442695040888963407
	return int(uint64(*d>>33) % uint64(most))
}

// events: some that may be, of all that each has.
func events() []api.Event {
	var l []api.Event
	for _, t := range []int{0, 1, 9999} {
		for _, a := range []api.Value{null, num(0), num(1), num(-1), num(1000), num(-1000)} {
			for _, b := range []api.Value{null, num(0), num(2), num(-1000)} {
				l = append(l, api.Event{Time: t, K: num(t % 3), A: a, B: b}, api.Event{Time: t, K: b, A: b, B: a})
			}
		}
	}
	return l
}

// hold what Fold answers against what it is asked.
func hold(t *testing.T, l []api.Node, at []api.Event) {
	t.Helper()
	was := slices.Clone(l)
	m := fold.Fold(l)
	if !slices.Equal(l, was) {
		t.Fatalf("Fold(%v) changed it: %v", was, l)
	}
	if err := expr.Check(m); err != nil {
		t.Fatalf("Fold(%v) = %v: %v", l, m, err)
	}
	if len(m) > len(l) {
		t.Fatalf("Fold(%v) = %v has more nodes", l, m)
	}
	for _, e := range at {
		if v, want := expr.Eval(m, e), expr.Eval(l, e); v != want {
			t.Fatalf("Fold(%v) = %v: at %v %v, %v is wanted", l, m, e, v, want)
		}
	}
	if k, err := expr.Type(l); err == nil {
		if k2, err := expr.Type(m); err != nil || k2 != k && k2 != api.Null {
			t.Fatalf("Fold(%v) = %v: type %d, %v, not %d", l, m, k2, err, k)
		}
	}
	isField := func(n api.Node) bool { return n.Op == api.Field }
	if !slices.ContainsFunc(l, isField) && len(m) != 1 {
		t.Fatalf("Fold(%v) = %v: all is constant", l, m)
	}
}

// leaves: parts that have no parts, of all kinds.
func leaves() [][]api.Node {
	return [][]api.Node{lit(null), lit(no), lit(yes), lit(num(0)), lit(num(1)), lit(num(-1)), lit(num(2)), lit(num(1000000000)), lit(num(-1000000000)), field(0), field(1), field(2), field(3)}
}

// small: all expressions of up to three nodes over these leaves.
func small() [][]api.Node {
	all := leaves()
	for op := api.Neg; op <= api.Same; op++ {
		for _, x := range leaves() {
			if expr.Arity(op) == 1 {
				all = append(all, one(op, x))
				continue
			}
			for _, y := range leaves() {
				all = append(all, two(op, x, y))
			}
		}
	}
	return all
}

func TestD1Small(t *testing.T) {
	at := events()
	for _, l := range small() {
		hold(t, l, at)
	}
}

// TestD1Nested: each kind of node over each small expression, alone or beside a leaf, on both sides.
func TestD1Nested(t *testing.T) {
	at := []api.Event{{}, {Time: 9999, K: num(1), A: num(-1000), B: null}, {Time: 1, K: null, A: num(1), B: num(1000)}, {Time: 2, K: num(0), A: num(0), B: num(2)}}
	for _, x := range small() {
		for op := api.Neg; op <= api.Same; op++ {
			if expr.Arity(op) == 1 {
				hold(t, one(op, x), at)
				continue
			}
			for _, y := range leaves() {
				hold(t, two(op, x, y), at)
				hold(t, two(op, y, x), at)
			}
		}
	}
}

// grow an expression of up to some depth.
func grow(d *die, deep int) []api.Node {
	if deep == 0 || d.n(6) == 0 {
		l := leaves()
		return l[d.n(len(l))]
	}
	op := api.Neg + d.n(10)
	x := grow(d, deep-1)
	if expr.Arity(op) == 1 {
		return one(op, x)
	}
	return two(op, x, grow(d, deep-1))
}

// growOf a kind: an expression that has that type, or is nothing.
func growOf(d *die, kind, deep int) []api.Node {
	if deep == 0 || d.n(6) == 0 {
		if kind == api.Number {
			return [][]api.Node{lit(null), lit(num(0)), lit(num(1)), lit(num(d.n(7) - 3)), lit(num(1000000000)), field(d.n(4)), field(d.n(4)), field(2)}[d.n(8)]
		}
		return [][]api.Node{lit(null), lit(no), lit(yes), one(api.IsNull, field(d.n(4))), two(api.Less, field(d.n(4)), field(d.n(4)))}[d.n(5)]
	}
	if kind == api.Number {
		if d.n(4) == 0 {
			return one(api.Neg, growOf(d, kind, deep-1))
		}
		return two(api.Add+d.n(3), growOf(d, kind, deep-1), growOf(d, kind, deep-1))
	}
	switch d.n(7) {
	case 0:
		return one(api.Not, growOf(d, kind, deep-1))
	case 1:
		return one(api.IsNull, growOf(d, 1+d.n(2), deep-1))
	case 2, 3:
		return two(api.Less+d.n(2), growOf(d, api.Number, deep-1), growOf(d, api.Number, deep-1))
	}
	return two(api.And+d.n(2), growOf(d, kind, deep-1), growOf(d, kind, deep-1))
}

func TestD1Grown(t *testing.T) {
	d, at := die(8), events()
	for range 6000 {
		var l []api.Node
		if d.n(2) == 0 {
			l = grow(&d, 1+d.n(5))
		} else {
			l = growOf(&d, 1+d.n(2), 1+d.n(5))
		}
		if len(l) <= api.MaxNodes {
			hold(t, l, at)
		}
	}
}

// TestD1Constant: one node with the value that all of it has.
func TestD1Constant(t *testing.T) {
	for i, c := range []struct {
		l    []api.Node
		want api.Value
	}{
		{lit(null), null},
		{lit(num(5)), num(5)},
		{one(api.Neg, lit(num(5))), num(-5)},
		{one(api.Not, lit(yes)), no},
		{one(api.Not, lit(null)), null},
		{one(api.IsNull, lit(null)), yes},
		{two(api.Add, lit(num(2)), two(api.Mul, lit(num(3)), lit(num(4)))), num(14)},
		{two(api.Add, lit(num(1000000000)), lit(num(1))), null},
		{two(api.Sub, two(api.Add, lit(num(1000000000)), lit(num(1))), lit(num(1))), null},
		{two(api.Or, two(api.Less, lit(num(1)), lit(num(2))), lit(null)), yes},
		{two(api.And, two(api.Same, lit(num(1)), lit(num(2))), lit(null)), no},
		{two(api.Add, lit(yes), lit(num(0))), null},
	} {
		if m := fold.Fold(c.l); !slices.Equal(m, lit(c.want)) {
			t.Errorf("%d: Fold(%v) = %v", i, c.l, m)
		}
	}
	l := lit(num(1))
	for len(l) < 39 {
		l = two(api.Add, l, lit(num(1)))
	}
	if m := fold.Fold(one(api.Neg, l)); !slices.Equal(m, lit(num(-20))) {
		t.Errorf("40 nodes: %v", m)
	}
}

// TestD1SaysTheSame: what looks as if it were the same with less, and isn't.
func TestD1SaysTheSame(t *testing.T) {
	a, b, less := field(2), field(3), two(api.Less, field(2), field(3))
	for _, l := range [][]api.Node{
		two(api.Mul, a, lit(num(0))),
		two(api.Sub, a, a),
		two(api.Same, a, a),
		two(api.Less, a, a),
		two(api.Or, less, one(api.Not, less)),
		two(api.And, less, one(api.Not, less)),
		two(api.And, a, lit(yes)),
		two(api.Or, a, lit(no)),
		two(api.And, less, lit(null)),
		two(api.Or, less, lit(null)),
		two(api.And, a, a),
		one(api.Not, one(api.Not, a)),
		one(api.Neg, one(api.Neg, less)),
		two(api.Add, less, lit(num(0))),
		two(api.Mul, lit(num(1)), less),
		two(api.Sub, lit(num(0)), a),
		two(api.Sub, two(api.Add, a, lit(num(1000000000))), lit(num(1000000000))),
		two(api.Add, two(api.Add, a, lit(num(1000000000))), lit(num(-1000000000))),
		two(api.Mul, two(api.Mul, a, lit(num(1000000))), lit(num(1000000))),
		one(api.IsNull, two(api.Mul, two(api.Mul, a, b), two(api.Mul, a, b))),
		one(api.IsNull, field(0)),
		one(api.Not, two(api.And, less, one(api.IsNull, a))),
	} {
		hold(t, l, events())
	}
}

// TestZ1: lists that are no expressions don't make it panic.
func TestZ1(t *testing.T) {
	d := die(9)
	n := func() int { return []int{d.n(16) - 2, d.n(5) - 1, 0, math.MaxInt, math.MinInt}[d.n(13)/3] }
	for range 20000 {
		l := make([]api.Node, d.n(7))
		for i := range l {
			l[i] = api.Node{Op: n(), X: n(), Y: n(), N: n(), Val: api.Value{Kind: n(), N: n()}}
		}
		fold.Fold(l)
	}
	fold.Fold(nil)
	long := field(2)
	for range 200 {
		long = one(api.Neg, long)
	}
	fold.Fold(long)
}

// TestZ2: what comes out is new, and nothing is written behind what was handed in.
func TestZ2(t *testing.T) {
	d := die(10)
	for range 500 {
		l := grow(&d, 3)
		all := append(slices.Clone(l), api.Node{Op: api.Neg, X: len(l) - 1})
		was := slices.Clone(all)
		m, m2 := fold.Fold(all[:len(l)]), fold.Fold(all[:len(l)])
		want := slices.Clone(m2)
		for i := range m {
			m[i] = api.Node{Op: 77}
		}
		_ = append(m, api.Node{Op: 78})
		if !slices.Equal(all, was) || !slices.Equal(m2, want) {
			t.Fatalf("Fold(%v): memory is shared", l)
		}
	}
}
