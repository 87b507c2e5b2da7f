// Package fold: expressions that say the same with less.
package fold

import (
	"slices"

	"penstock/api"
	"penstock/expr"
	"penstock/value"
)

// Fold an expression that may be: it has the same value at each event.
func Fold(l []api.Node) []api.Node {
	if expr.Check(l) != nil {
		return slices.Clone(l)
	}
	return folded(l)
}

// folded: parts first, so that what is found out of them can tell more of the whole.
func folded(l []api.Node) []api.Node {
	last := l[len(l)-1]
	switch expr.Arity(last.Op) {
	case 1:
		return foldOne(last.Op, folded(expr.Cut(l, last.X)))
	case 2:
		return foldTwo(last.Op, folded(expr.Cut(l, last.X)), folded(expr.Cut(l, last.Y)))
	}
	return slices.Clone(l)
}

// foldOne: a node over a part that is folded already.
func foldOne(op int, x []api.Node) []api.Node {
	whole := expr.Join(op, x, nil)
	if isConst(x) {
		return constant(expr.Eval(whole, api.Event{}))
	}
	last := x[len(x)-1]
	if last.Op != op || op == api.IsNull {
		return whole
	}
	// Twice the other way round is as it was, but only of what is of the node's own kind, or nothing.
	if inner := expr.Cut(x, last.X); isOf(inner, ownKind(op)) {
		return inner
	}
	return whole
}

// foldTwo: a node over parts that are folded already.
func foldTwo(op int, x, y []api.Node) []api.Node {
	whole := expr.Join(op, x, y)
	if isConst(x) && isConst(y) {
		return constant(expr.Eval(whole, api.Event{}))
	}
	if isConst(x) && settles(op, x[0].Val) {
		return constant(settled(op, x[0].Val))
	}
	if isConst(y) && settles(op, y[0].Val) {
		return constant(settled(op, y[0].Val))
	}
	if isConst(x) && idleAhead(op, x[0].Val) && isOf(y, ownKind(op)) {
		return y
	}
	if isConst(y) && idleBehind(op, y[0].Val) && isOf(x, ownKind(op)) {
		return x
	}
	return whole
}

// settles: is it known what a node of that kind says if v is one of its parts, whatever the other one is?
func settles(op int, v api.Value) bool {
	switch op {
	case api.And:
		return v == value.Truth(false)
	case api.Or:
		return v == value.Truth(true)
	}
	return v.Kind != api.Number
}

// settled: what a node says that is settled by v: of And and Or v itself; of the others, that want numbers, nothing.
func settled(op int, v api.Value) api.Value {
	if op == api.And || op == api.Or {
		return v
	}
	return value.Null()
}

// idleBehind: is a node of that kind over some x of its own kind, and v, as x is?
func idleBehind(op int, v api.Value) bool {
	return op == api.Sub && v == value.Number(0) || idleAhead(op, v)
}

// idleAhead: is a node of that kind over v, and some y of its own kind, as y is?
func idleAhead(op int, v api.Value) bool {
	switch op {
	case api.And:
		return v == value.Truth(true)
	case api.Or:
		return v == value.Truth(false)
	case api.Add:
		return v == value.Number(0)
	case api.Mul:
		return v == value.Number(1)
	}
	return false
}

// ownKind of a node that takes values of one kind and says one of the same.
func ownKind(op int) int {
	switch op {
	case api.Not, api.And, api.Or:
		return api.Truth
	}
	return api.Number
}

// isOf: is each value of an expression of that kind, or nothing? Not known of what has no type.
func isOf(l []api.Node, kind int) bool {
	k, err := expr.Type(l)
	return err == nil && k == kind
}

func isConst(l []api.Node) bool { return len(l) == 1 && l[0].Op == api.Const }

// constant expression of a value.
func constant(v api.Value) []api.Node { return []api.Node{{Op: api.Const, Val: v}} }
