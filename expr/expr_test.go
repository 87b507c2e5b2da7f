package expr_test

import (
	"math"
	"slices"
	"testing"

	"penstock/api"
	"penstock/expr"
)

var (
	null = api.Value{}
	no   = api.Value{Kind: 2}
	yes  = api.Value{Kind: 2, N: 1}
)

func num(n int) api.Value { return api.Value{Kind: 1, N: n} }

func lit(v api.Value) api.Node { return api.Node{Op: api.Const, Val: v} }

func field(n int) api.Node { return api.Node{Op: api.Field, N: n} }

func one(op, x int) api.Node { return api.Node{Op: op, X: x} }

func two(op, x, y int) api.Node { return api.Node{Op: op, X: x, Y: y} }

// tree: an expression as it is thought of; its list of nodes is what the tests hold against the package's.
type tree struct {
	node  api.Node
	parts []*tree
}

// list of a tree: behind so many other nodes.
func (t *tree) list(behind int) []api.Node {
	var l []api.Node
	ends := [2]int{}
	for i, p := range t.parts {
		l = append(l, p.list(behind+len(l))...)
		ends[i] = behind + len(l) - 1
	}
	n := t.node
	n.X, n.Y = ends[0], ends[1]
	return append(l, n)
}

// each part of a tree, in the order of their last nodes.
func (t *tree) each() []*tree {
	var all []*tree
	for _, p := range t.parts {
		all = append(all, p.each()...)
	}
	return append(all, t)
}

// die: numbers that look drawn, the same each time.
type die uint64

func (d *die) n(most int) int {
	*d = *d*6364136223846793005 + 1442695040888963407
	return int(uint64(*d>>33) % uint64(most))
}

// parts that a kind of node has, by the document.
func partsOf(op int) int {
	return map[int]int{1: 0, 2: 0, 3: 1, 4: 1, 5: 1, 6: 2, 7: 2, 8: 2, 9: 2, 10: 2, 11: 2, 12: 2}[op]
}

// grow a tree of up to some depth.
func grow(d *die, deep int) *tree {
	if deep == 0 || d.n(5) == 0 {
		if d.n(2) == 0 {
			return &tree{node: field(d.n(4))}
		}
		return &tree{node: lit([]api.Value{null, no, yes, num(d.n(9) - 4), num(1000000000), num(-1000000000)}[d.n(6)])}
	}
	t := &tree{node: api.Node{Op: 3 + d.n(10)}}
	for range partsOf(t.node.Op) {
		t.parts = append(t.parts, grow(d, deep-1))
	}
	return t
}

func TestC1Arity(t *testing.T) {
	for op, want := range map[int]int{api.Const: 0, api.Field: 0, api.Neg: 1, api.Not: 1, api.IsNull: 1, api.Add: 2, api.Sub: 2, api.Mul: 2, api.And: 2, api.Or: 2, api.Less: 2, api.Same: 2, 0: -1, -1: -1, 13: -1, 14: -1, math.MaxInt: -1, math.MinInt: -1} {
		if n := expr.Arity(op); n != want {
			t.Errorf("Arity(%d) = %d", op, n)
		}
	}
}

func TestC1Check(t *testing.T) {
	a, c := field(2), lit(num(3))
	for i, x := range []struct {
		l    []api.Node
		want error
	}{
		{[]api.Node{a}, nil},
		{[]api.Node{c}, nil},
		{[]api.Node{lit(null)}, nil},
		{[]api.Node{field(0)}, nil},
		{[]api.Node{field(3)}, nil},
		{[]api.Node{a, one(api.Neg, 0)}, nil},
		{[]api.Node{a, c, two(api.Add, 0, 1)}, nil},
		{[]api.Node{a, one(api.Not, 0), c, two(api.Add, 1, 2)}, nil},
		{[]api.Node{a, c, one(api.IsNull, 1), two(api.And, 0, 2)}, nil},
		{[]api.Node{a, c, two(api.Or, 0, 1), c, a, two(api.Mul, 3, 4), two(api.Same, 2, 5)}, nil},
		// none, or several
		{nil, api.ErrShape},
		{[]api.Node{}, api.ErrShape},
		{[]api.Node{a, c}, api.ErrShape},
		{[]api.Node{a, c, one(api.Neg, 1)}, api.ErrShape},
		// there is no such kind
		{[]api.Node{{}}, api.ErrShape},
		{[]api.Node{{Op: 13}}, api.ErrShape},
		{[]api.Node{{Op: -1}}, api.ErrShape},
		{[]api.Node{{Op: math.MaxInt}}, api.ErrShape},
		{[]api.Node{{Op: math.MinInt}}, api.ErrShape},
		// something that a node doesn't have
		{[]api.Node{{Op: api.Const, N: 1}}, api.ErrShape},
		{[]api.Node{{Op: api.Const, X: 1}}, api.ErrShape},
		{[]api.Node{{Op: api.Const, Y: 1}}, api.ErrShape},
		{[]api.Node{{Op: api.Const, N: 9}}, api.ErrShape},
		{[]api.Node{{Op: api.Field, X: -1}}, api.ErrShape},
		{[]api.Node{{Op: api.Field, Y: -1}}, api.ErrShape},
		{[]api.Node{{Op: api.Field, Val: num(0)}}, api.ErrShape},
		{[]api.Node{{Op: api.Field, Val: api.Value{N: 1}}}, api.ErrShape},
		{[]api.Node{{Op: api.Field, N: 9, X: 1}}, api.ErrShape},
		{[]api.Node{a, {Op: api.Neg, Y: 1}}, api.ErrShape},
		{[]api.Node{a, {Op: api.Neg, N: 1}}, api.ErrShape},
		{[]api.Node{a, {Op: api.Not, Val: no}}, api.ErrShape},
		{[]api.Node{a, {Op: api.Neg, N: 4}}, api.ErrShape},
		{[]api.Node{a, c, {Op: api.Add, Y: 1, N: 1}}, api.ErrShape},
		{[]api.Node{a, c, {Op: api.Add, Y: 1, Val: num(1)}}, api.ErrShape},
		// out of bounds
		{[]api.Node{field(4)}, api.ErrBound},
		{[]api.Node{field(-1)}, api.ErrBound},
		{[]api.Node{field(math.MaxInt)}, api.ErrBound},
		{[]api.Node{field(math.MinInt)}, api.ErrBound},
		// a value that may not be
		{[]api.Node{lit(num(1000000001))}, api.ErrShape},
		{[]api.Node{lit(api.Value{Kind: 2, N: 2})}, api.ErrShape},
		{[]api.Node{lit(api.Value{Kind: 3})}, api.ErrShape},
		{[]api.Node{lit(api.Value{N: 1})}, api.ErrShape},
		// parts that are elsewhere
		{[]api.Node{one(api.Neg, 0)}, api.ErrShape},
		{[]api.Node{one(api.Neg, -1)}, api.ErrShape},
		{[]api.Node{a, one(api.Neg, 1)}, api.ErrShape},
		{[]api.Node{a, c, one(api.Neg, 0)}, api.ErrShape},
		{[]api.Node{a, one(api.Neg, math.MaxInt)}, api.ErrShape},
		{[]api.Node{a, one(api.Neg, math.MinInt)}, api.ErrShape},
		{[]api.Node{two(api.Add, 0, 0)}, api.ErrShape},
		{[]api.Node{two(api.Add, -2, -1)}, api.ErrShape},
		{[]api.Node{a, two(api.Add, 0, 0)}, api.ErrShape},
		{[]api.Node{a, two(api.Add, -1, 0)}, api.ErrShape},
		{[]api.Node{a, c, two(api.Add, 1, 0)}, api.ErrShape},
		{[]api.Node{a, c, two(api.Add, 1, 1)}, api.ErrShape},
		{[]api.Node{a, c, two(api.Add, 0, 0)}, api.ErrShape},
		{[]api.Node{a, c, one(api.Neg, 1), two(api.Add, 1, 2)}, api.ErrShape},
		{[]api.Node{a, c, a, two(api.Add, 0, 2)}, api.ErrShape},
		{[]api.Node{a, c, two(api.Add, math.MinInt, math.MaxInt)}, api.ErrShape},
		// the first one's error
		{[]api.Node{field(4), {}}, api.ErrBound},
		{[]api.Node{{}, field(4)}, api.ErrShape},
		{[]api.Node{a, field(4)}, api.ErrBound},
		{[]api.Node{a, one(api.Neg, 5), field(4)}, api.ErrShape},
		{[]api.Node{field(4), one(api.Neg, 5)}, api.ErrBound},
	} {
		if err := expr.Check(x.l); err != x.want {
			t.Errorf("%d: Check(%v) = %v, %v is wanted", i, x.l, err, x.want)
		}
	}
}

// chain of a field and nodes over it, so many in all.
func chain(n int) []api.Node {
	l := []api.Node{field(2)}
	for len(l) < n {
		l = append(l, one(api.Neg, len(l)-1))
	}
	return l
}

func TestC1HowMany(t *testing.T) {
	if err := expr.Check(chain(40)); err != nil {
		t.Errorf("40 nodes: %v", err)
	}
	if err := expr.Check(chain(41)); err != api.ErrMany {
		t.Errorf("41 nodes: %v", err)
	}
	if err := expr.Check(make([]api.Node, 41)); err != api.ErrMany {
		t.Errorf("41 nodes that are none: %v", err)
	}
	if err := expr.Check(make([]api.Node, 40)); err != api.ErrShape {
		t.Errorf("40 nodes that are none: %v", err)
	}
}

// trees of some kinds of nodes, of just so many nodes.
func trees(nodes int) []*tree {
	if nodes == 1 {
		return []*tree{{node: field(1)}}
	}
	var all []*tree
	for _, x := range trees(nodes - 1) {
		all = append(all, &tree{one(api.Not, 0), []*tree{x}})
	}
	for left := 1; left < nodes-1; left++ {
		for _, x := range trees(left) {
			for _, y := range trees(nodes - 1 - left) {
				all = append(all, &tree{two(api.Less, 0, 0), []*tree{x, y}})
			}
		}
	}
	return all
}

// TestC1AllSmall: of all lists of up to three nodes with all small numbers just those may be that are trees.
func TestC1AllSmall(t *testing.T) {
	may := map[[3]api.Node]int{}
	for n := 1; n <= 3; n++ {
		for _, x := range trees(n) {
			k := [3]api.Node{}
			copy(k[:], x.list(0))
			may[k]++
		}
	}
	var all []api.Node
	for x := -1; x < 4; x++ {
		for y := -1; y < 4; y++ {
			all = append(all, api.Node{Op: api.Field, N: 1, X: x, Y: y}, two(api.Not, x, y), two(api.Less, x, y))
		}
	}
	for _, a := range all {
		holdSmall(t, may, a)
		for _, b := range all {
			holdSmall(t, may, a, b)
			for _, c := range all {
				holdSmall(t, may, a, b, c)
			}
		}
	}
}

func holdSmall(t *testing.T, may map[[3]api.Node]int, l ...api.Node) {
	k := [3]api.Node{}
	copy(k[:], l)
	want := error(api.ErrShape)
	if may[k] > 0 {
		want = nil
	}
	if err := expr.Check(l); err != want {
		t.Errorf("Check(%v) = %v, %v is wanted", l, err, want)
	}
}

func TestC2Eval(t *testing.T) {
	e := api.Event{Time: 12, K: num(-3), A: null, B: num(1000)}
	a, b, k := field(2), field(3), field(1)
	for i, c := range []struct {
		l    []api.Node
		want api.Value
	}{
		{[]api.Node{field(0)}, num(12)},
		{[]api.Node{k}, num(-3)},
		{[]api.Node{a}, null},
		{[]api.Node{b}, num(1000)},
		{[]api.Node{lit(yes)}, yes},
		{[]api.Node{lit(null)}, null},
		{[]api.Node{lit(num(-1000000000))}, num(-1000000000)},
		{[]api.Node{k, one(api.Neg, 0)}, num(3)},
		{[]api.Node{a, one(api.Neg, 0)}, null},
		{[]api.Node{lit(no), one(api.Not, 0)}, yes},
		{[]api.Node{k, one(api.Not, 0)}, null},
		{[]api.Node{a, one(api.IsNull, 0)}, yes},
		{[]api.Node{b, one(api.IsNull, 0)}, no},
		{[]api.Node{lit(num(0)), one(api.IsNull, 0)}, no},
		{[]api.Node{lit(no), one(api.IsNull, 0)}, no},
		{[]api.Node{b, k, two(api.Add, 0, 1)}, num(997)},
		{[]api.Node{b, k, two(api.Sub, 0, 1)}, num(1003)},
		{[]api.Node{b, k, two(api.Mul, 0, 1)}, num(-3000)},
		{[]api.Node{b, k, two(api.Less, 0, 1)}, no},
		{[]api.Node{k, b, two(api.Less, 0, 1)}, yes},
		{[]api.Node{k, b, two(api.Same, 0, 1)}, no},
		{[]api.Node{a, b, two(api.Less, 0, 1)}, null},
		{[]api.Node{lit(yes), a, two(api.And, 0, 1)}, null},
		{[]api.Node{lit(no), a, two(api.And, 0, 1)}, no},
		{[]api.Node{a, lit(yes), two(api.Or, 0, 1)}, yes},
		{[]api.Node{a, lit(no), two(api.Or, 0, 1)}, null},
		{[]api.Node{b, lit(num(1000000)), two(api.Mul, 0, 1)}, num(1000000000)},
		{[]api.Node{b, lit(num(1000001)), two(api.Mul, 0, 1)}, null},
		{[]api.Node{b, k, two(api.Sub, 0, 1), field(0), one(api.Neg, 3), two(api.Sub, 2, 4)}, num(1015)},
	} {
		if v := expr.Eval(c.l, e); v != c.want {
			t.Errorf("%d: Eval(%v) = %v, %v is wanted", i, c.l, v, c.want)
		}
	}
	if v := expr.Eval([]api.Node{field(0)}, api.Event{Time: 9999}); v != num(9999) {
		t.Errorf("the time 9999 is %v", v)
	}
	if v := expr.Eval([]api.Node{field(0)}, api.Event{}); v != num(0) {
		t.Errorf("the time 0 is %v", v)
	}
}

// value of a tree at an event, by the document's words.
func (t *tree) value(e api.Event) api.Value {
	var p [2]api.Value
	for i, x := range t.parts {
		p[i] = x.value(e)
	}
	numbers := p[0].Kind == 1 && p[1].Kind == 1
	switch t.node.Op {
	case api.Const:
		return t.node.Val
	case api.Field:
		return []api.Value{num(e.Time), e.K, e.A, e.B}[t.node.N]
	case api.Neg:
		if p[0].Kind == 1 {
			return num(-p[0].N)
		}
	case api.Not:
		if p[0].Kind == 2 {
			return api.Value{Kind: 2, N: 1 - p[0].N}
		}
	case api.IsNull:
		return truth(p[0].Kind == 0)
	case api.And:
		return three(p, no, yes)
	case api.Or:
		return three(p, yes, no)
	case api.Add, api.Sub, api.Mul:
		n := map[int]int{api.Add: p[0].N + p[1].N, api.Sub: p[0].N - p[1].N, api.Mul: p[0].N * p[1].N}[t.node.Op]
		if numbers && n >= -1000000000 && n <= 1000000000 {
			return num(n)
		}
	case api.Less:
		if numbers {
			return truth(p[0].N < p[1].N)
		}
	case api.Same:
		if numbers {
			return truth(p[0].N == p[1].N)
		}
	}
	return null
}

func truth(is bool) api.Value {
	if is {
		return yes
	}
	return no
}

// three: one of them is enough for the first, both are needed for the second.
func three(p [2]api.Value, enough, both api.Value) api.Value {
	if p[0] == enough || p[1] == enough {
		return enough
	}
	if p[0] == both && p[1] == both {
		return both
	}
	return null
}

func eventOf(d *die) api.Event {
	v := func() api.Value {
		return []api.Value{null, num(d.n(7) - 3), num(d.n(2001) - 1000), num(1000), num(-1000)}[d.n(5)]
	}
	return api.Event{Time: []int{0, 1, d.n(10000), 9999}[d.n(4)], K: v(), A: v(), B: v()}
}

// TestC2Trees: lists of trees, also greater ones than may be asked, against the trees themselves.
func TestC2Trees(t *testing.T) {
	d := die(3)
	great := 0
	for range 1500 {
		x := grow(&d, d.n(8))
		l, e := x.list(0), eventOf(&d)
		if len(l) > api.MaxNodes {
			great++
		} else if err := expr.Check(l); err != nil {
			t.Fatalf("Check(%v) = %v", l, err)
		}
		if v, want := expr.Eval(l, e), x.value(e); v != want {
			t.Fatalf("Eval(%v, %v) = %v, %v is wanted", l, e, v, want)
		}
		all := x.each()
		at := d.n(len(l))
		if c := expr.Cut(l, at); !slices.Equal(c, all[at].list(0)) {
			t.Fatalf("Cut(%v, %d) = %v", l, at, c)
		}
		if c := expr.Cut(l, len(l)-1); !slices.Equal(c, l) {
			t.Fatalf("Cut of all of %v = %v", l, c)
		}
		y := grow(&d, d.n(5))
		op := 3 + d.n(10)
		parts := []*tree{x, y}[:partsOf(op)]
		want := (&tree{api.Node{Op: op}, parts}).list(0)
		m := y.list(0)
		if len(parts) == 1 {
			m = nil
		}
		if j := expr.Join(op, l, m); !slices.Equal(j, want) {
			t.Fatalf("Join(%d, %v, %v) = %v", op, l, m, j)
		}
	}
	if great == 0 {
		t.Error("no expression of more than MaxNodes nodes was among them")
	}
}

func TestC2Many(t *testing.T) {
	l := chain(10001)
	if v := expr.Eval(l, api.Event{A: num(5)}); v != num(5) {
		t.Errorf("negated 10000 times: %v", v)
	}
	if c := expr.Cut(l, 9999); !slices.Equal(c, chain(10000)) {
		t.Errorf("Cut of a long one has %d nodes", len(c))
	}
	if j := expr.Join(api.Neg, l, nil); !slices.Equal(j, chain(10002)) {
		t.Errorf("Join of a long one has %d nodes", len(j))
	}
}

// kind of a tree's values, by the document's words; false: it has none.
func (t *tree) kind() (int, bool) {
	bad := map[int]int{api.Not: 1, api.And: 1, api.Or: 1, api.Neg: 2, api.Add: 2, api.Sub: 2, api.Mul: 2, api.Less: 2, api.Same: 2}
	for _, x := range t.parts {
		k, ok := x.kind()
		if not, asked := bad[t.node.Op]; !ok || asked && k == not {
			return 0, false
		}
	}
	switch t.node.Op {
	case api.Const:
		return t.node.Val.Kind, true
	case api.Not, api.And, api.Or, api.Less, api.Same, api.IsNull:
		return 2, true
	}
	return 1, true
}

func TestC3Trees(t *testing.T) {
	d := die(4)
	have := 0
	for range 3000 {
		x := grow(&d, d.n(5))
		l := x.list(0)
		want, ok := x.kind()
		k, err := expr.Type(l)
		if ok {
			have++
		}
		if ok && (k != want || err != nil) || !ok && (k != 0 || err != api.ErrShape) {
			t.Fatalf("Type(%v) = %d, %v; %d, %v is wanted", l, k, err, want, ok)
		}
	}
	if have < 500 || have > 2500 {
		t.Errorf("%d of them have a type", have)
	}
}

// TestC3Parts: each kind of node over each kind of part.
func TestC3Parts(t *testing.T) {
	parts := [3]api.Value{null, num(1), yes}
	for op := api.Neg; op <= api.Same; op++ {
		for i, x := range parts {
			for j, y := range parts {
				n := &tree{node: api.Node{Op: op}, parts: []*tree{{node: lit(x)}, {node: lit(y)}}[:partsOf(op)]}
				want, ok := n.kind()
				k, err := expr.Type(n.list(0))
				if k != want || (err == nil) != ok || !ok && err != api.ErrShape {
					t.Errorf("node %d over kinds %d, %d: %d, %v", op, i, j, k, err)
				}
			}
		}
	}
}

func TestC3Type(t *testing.T) {
	for i, c := range []struct {
		l    []api.Node
		want int
		err  error
	}{
		{[]api.Node{lit(null)}, api.Null, nil},
		{[]api.Node{lit(num(3))}, api.Number, nil},
		{[]api.Node{lit(no)}, api.Truth, nil},
		{[]api.Node{field(0)}, api.Number, nil},
		{[]api.Node{field(3)}, api.Number, nil},
		{[]api.Node{lit(null), one(api.Neg, 0)}, api.Number, nil},
		{[]api.Node{lit(null), one(api.Not, 0)}, api.Truth, nil},
		{[]api.Node{lit(null), lit(null), two(api.Add, 0, 1)}, api.Number, nil},
		{[]api.Node{lit(null), lit(null), two(api.Same, 0, 1)}, api.Truth, nil},
		{[]api.Node{field(0), one(api.Not, 0)}, 0, api.ErrShape},
		// a number stands first, and is no part of the node whose Y is 0
		{[]api.Node{field(0), lit(num(1)), two(api.Less, 0, 1), one(api.Not, 2)}, api.Truth, nil},
		{[]api.Node{lit(yes), one(api.IsNull, 0)}, api.Truth, nil},
		{[]api.Node{lit(yes), one(api.Neg, 0), one(api.IsNull, 1)}, 0, api.ErrShape},
		{[]api.Node{lit(yes), one(api.Neg, 0), lit(null), two(api.And, 1, 2)}, 0, api.ErrShape},
		{[]api.Node{lit(no), one(api.Not, 0), field(1), one(api.Neg, 2), one(api.IsNull, 3), two(api.Or, 1, 4)}, api.Truth, nil},
	} {
		if k, err := expr.Type(c.l); k != c.want || err != c.err {
			t.Errorf("%d: Type(%v) = %d, %v", i, c.l, k, err)
		}
	}
}

// wildNode: any numbers at all.
func wildNode(d *die) api.Node {
	n := func() int {
		return []int{d.n(16) - 2, d.n(5) - 1, 0, math.MaxInt, math.MinInt}[d.n(13)/3]
	}
	return api.Node{Op: n(), X: n(), Y: n(), N: n(), Val: api.Value{Kind: n(), N: n()}}
}

// TestZ1: no nodes, events and numbers make a call panic, or go on for ever.
func TestZ1(t *testing.T) {
	d := die(5)
	for range 20000 {
		l := make([]api.Node, d.n(7))
		for i := range l {
			l[i] = wildNode(&d)
		}
		e := api.Event{Time: d.n(3) - 1, K: wildNode(&d).Val, A: wildNode(&d).Val, B: wildNode(&d).Val}
		expr.Check(l)
		expr.Eval(l, e)
		if k, err := expr.Type(l); err != nil && k != 0 {
			t.Fatalf("Type(%v) = %d, %v", l, k, err)
		}
		expr.Cut(l, wildNode(&d).X)
		expr.Join(wildNode(&d).Op, l, l)
		expr.Join(wildNode(&d).Op, nil, l)
	}
	for _, end := range []int{-1, 1, math.MaxInt, math.MinInt} {
		expr.Cut(chain(1), end)
	}
}

// roomy: the same list with other nodes behind it in memory.
func roomy(l []api.Node) (list, behind []api.Node) {
	all := append(slices.Clone(l), field(3), lit(yes), field(3))
	return all[:len(l)], all
}

// TestZ2: lists that are handed in stay as they are, also behind their ends, and what comes out is new.
func TestZ2(t *testing.T) {
	d := die(6)
	for range 300 {
		x, y := grow(&d, 3).list(0), grow(&d, 3).list(0)
		lx, allx := roomy(x)
		ly, ally := roomy(y)
		wasx, wasy := slices.Clone(allx), slices.Clone(ally)
		expr.Check(lx)
		expr.Eval(lx, api.Event{})
		expr.Type(lx)
		c := expr.Cut(lx, len(lx)-1)
		j := expr.Join(api.Add, lx, ly)
		k := expr.Join(api.Add, lx, ly)
		for _, l := range [][]api.Node{c, j} {
			for i := range l {
				l[i] = api.Node{Op: 77}
			}
			_ = append(l, api.Node{Op: 78})
		}
		if !slices.Equal(allx, wasx) || !slices.Equal(ally, wasy) {
			t.Fatalf("a list that was handed in is another one now: %v %v", allx, ally)
		}
		if slices.ContainsFunc(k, func(n api.Node) bool { return n.Op > 70 }) {
			t.Fatalf("two answers share memory: %v", k)
		}
	}
}
