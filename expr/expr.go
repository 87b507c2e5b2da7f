// Package expr: expressions over what an event has.
package expr

import (
	"penstock/api"
	"penstock/value"
)

// fields: how many things an event has.
const fields = 4

// Arity of a node's kind; below 0: there is no such kind.
func Arity(op int) int {
	switch op {
	case api.Const, api.Field:
		return 0
	case api.Neg, api.Not, api.IsNull:
		return 1
	case api.Add, api.Sub, api.Mul, api.And, api.Or, api.Less, api.Same:
		return 2
	}
	return -1
}

// Check an expression: each node's own follow just ahead of it: first those of X, then those of Y.
func Check(l []api.Node) error {
	if len(l) > api.MaxNodes {
		return api.ErrMany
	}
	begins := make([]int, 0, len(l))
	for _, n := range l {
		if err := checkNode(n); err != nil {
			return err
		}
		begin, ok := beginOf(n, begins)
		if !ok {
			return api.ErrShape
		}
		begins = append(begins, begin)
	}
	if len(l) == 0 || begins[len(l)-1] != 0 {
		return api.ErrShape
	}
	return nil
}

// checkNode by itself, without asking where its parts are.
func checkNode(n api.Node) error {
	arity := Arity(n.Op)
	switch {
	case arity < 0,
		n.Op != api.Const && n.Val != value.Null(),
		n.Op != api.Field && n.N != 0,
		arity < 2 && n.Y != 0,
		arity < 1 && n.X != 0:
		return api.ErrShape
	case n.N < 0 || n.N >= fields:
		return api.ErrBound
	}
	return value.Check(n.Val)
}

// beginOf the expression of a node that stands next; begins has where those begin that end at the nodes ahead of it.
// False: its parts are not just ahead of it, next to each other.
func beginOf(n api.Node, begins []int) (int, bool) {
	begin := len(begins)
	for _, part := range lastFirst(n) {
		if begin == 0 || part != begin-1 {
			return 0, false
		}
		begin = begins[part]
	}
	return begin, true
}

// lastFirst: where a node's parts end, Y ahead of X.
func lastFirst(n api.Node) []int {
	switch Arity(n.Op) {
	case 1:
		return []int{n.X}
	case 2:
		return []int{n.Y, n.X}
	}
	return nil
}

// Eval an expression that may be, at an event.
func Eval(l []api.Node, e api.Event) api.Value {
	has := [fields]api.Value{value.Number(e.Time), e.K, e.A, e.B}
	vals := make([]api.Value, 0, len(l))
	for _, n := range l {
		vals = append(vals, evalNode(n, has, vals))
	}
	return valueAt(vals, len(l)-1)
}

// evalNode, where the event has these, and the nodes ahead have the values vals.
func evalNode(n api.Node, has [fields]api.Value, vals []api.Value) api.Value {
	x := valueAt(vals, n.X)
	switch n.Op {
	case api.Const:
		return n.Val
	case api.Field:
		return valueAt(has[:], n.N)
	case api.Neg:
		return value.Neg(x)
	case api.Not:
		return value.Not(x)
	case api.IsNull:
		return value.Truth(x == value.Null())
	}
	return value.Do(n.Op, x, valueAt(vals, n.Y))
}

// valueAt a place; nothing where there is none, so that no list of nodes, however wrong, makes Eval panic.
func valueAt(vals []api.Value, at int) api.Value {
	if at < 0 || at >= len(vals) {
		return value.Null()
	}
	return vals[at]
}

// Type of an expression that may be: of which kind its values are (Null: they are nothing).
func Type(l []api.Node) (int, error) {
	if len(l) == 0 {
		return 0, api.ErrShape
	}
	kinds := make([]int, 0, len(l))
	for _, n := range l {
		if !partsFit(n, kinds) {
			return 0, api.ErrShape
		}
		kinds = append(kinds, kindOf(n))
	}
	return kinds[len(l)-1], nil
}

// partsFit: do a node's parts have kinds that go with it, where the nodes ahead have these?
func partsFit(n api.Node, kinds []int) bool {
	for _, part := range lastFirst(n) {
		if part < 0 || part >= len(kinds) || !goesWith(n.Op, kinds[part]) {
			return false
		}
	}
	return true
}

// goesWith: may a part of a node of that kind have values of this one?
func goesWith(op, kind int) bool {
	switch op {
	case api.Not, api.And, api.Or:
		return kind != api.Number
	case api.IsNull:
		return true
	}
	return kind != api.Truth
}

// kindOf a node's values, whatever its parts are.
func kindOf(n api.Node) int {
	switch n.Op {
	case api.Const:
		return n.Val.Kind
	case api.Not, api.IsNull, api.And, api.Or, api.Less, api.Same:
		return api.Truth
	}
	return api.Number
}

// Cut: the nodes of an expression that end at one, with their own numbers.
func Cut(l []api.Node, end int) []api.Node {
	if end < 0 || end >= len(l) {
		return nil
	}
	begin := end
	for Arity(l[begin].Op) > 0 {
		x := l[begin].X
		// Only what may not be points on or out of the list; without this the way down would not end.
		if x < 0 || x >= begin {
			return nil
		}
		begin = x
	}
	return moved(nil, l[begin:end+1], -begin)
}

// Join expressions by a node of a kind.
func Join(op int, x, y []api.Node) []api.Node {
	n := api.Node{Op: op}
	switch Arity(op) {
	case 1:
		y = nil
		n.X = len(x) - 1
	case 2:
		n.X, n.Y = len(x)-1, len(x)+len(y)-1
	default:
		return nil
	}
	l := make([]api.Node, 0, len(x)+len(y)+1)
	l = moved(l, x, 0)
	l = moved(l, y, len(x))
	return append(l, n)
}

// moved: to, and behind it the nodes of a list, each of their parts so much farther back.
func moved(to, l []api.Node, by int) []api.Node {
	for _, n := range l {
		switch Arity(n.Op) {
		case 1:
			n.X += by
		case 2:
			n.X += by
			n.Y += by
		}
		to = append(to, n)
	}
	return to
}
