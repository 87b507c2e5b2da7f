package query

import (
	"strconv"
	"strings"

	"penstock/api"
	"penstock/value"
)

// fieldNames: what an event has, by the numbers of fields.
var fieldNames = [...]string{"t", "k", "a", "b"}

// Text of a question that may be; of others there is none, since their nodes may lead anywhere.
func Text(q api.Query) string {
	if Check(q) != nil {
		return ""
	}
	aggs := make([]string, 0, len(q.Aggs))
	for _, a := range q.Aggs {
		aggs = append(aggs, aggText(a))
	}
	s := "select " + strings.Join(aggs, ", ") + " from events"
	if len(q.Where) > 0 {
		s += " where " + exprText(q.Where)
	}
	if len(q.By) > 0 {
		s += " group by " + exprText(q.By)
	}
	return s + " window " + strconv.Itoa(q.Size) + " slide " + strconv.Itoa(q.Slide) +
		" delay " + strconv.Itoa(q.Delay) + " late " + strconv.Itoa(q.Late)
}

func aggText(a api.Agg) string {
	if a.Kind == api.Count {
		return "count(*)"
	}
	return aggName(a.Kind) + "(" + exprText(a.Of) + ")"
}

// aggName of what is gathered of an expression.
func aggName(kind int) string {
	switch kind {
	case api.Sum:
		return "sum"
	case api.Min:
		return "min"
	case api.Max:
		return "max"
	}
	return "count"
}

// exprText: each node's text is made of those of its parts, which stand ahead of it.
func exprText(l []api.Node) string {
	texts := make([]string, 0, len(l))
	for _, n := range l {
		texts = append(texts, nodeText(n, texts))
	}
	return texts[len(l)-1]
}

// nodeText, where the nodes ahead have these texts.
func nodeText(n api.Node, texts []string) string {
	switch n.Op {
	case api.Const:
		return constText(n.Val)
	case api.Field:
		return fieldNames[n.N]
	case api.Neg:
		return "(- " + texts[n.X] + ")"
	case api.Not:
		return "(not " + texts[n.X] + ")"
	case api.IsNull:
		return "(" + texts[n.X] + " is null)"
	}
	return "(" + texts[n.X] + " " + signText(n.Op) + " " + texts[n.Y] + ")"
}

// constText: a question's numbers are digits alone, so what is below 0 is written as so much less than 0.
func constText(v api.Value) string {
	if v.N < 0 {
		return "(0 - " + value.Text(value.Neg(v)) + ")"
	}
	return value.Text(v)
}

// signText: the sign of a node over two parts.
func signText(op int) string {
	switch op {
	case api.Add:
		return "+"
	case api.Sub:
		return "-"
	case api.Mul:
		return "*"
	case api.And:
		return "and"
	case api.Or:
		return "or"
	case api.Less:
		return "<"
	}
	return "="
}
