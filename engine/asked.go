package engine

import (
	"slices"

	"penstock/api"
	"penstock/expr"
	"penstock/value"
	"penstock/window"
)

// own question: an engine outlives the call that its question is handed to, so it shares no list with that.
func own(q api.Query) api.Query {
	q.Aggs = slices.Clone(q.Aggs)
	for i, a := range q.Aggs {
		q.Aggs[i].Of = slices.Clone(a.Of)
	}
	q.Where, q.By = slices.Clone(q.Where), slices.Clone(q.By)
	return q
}

// Kinds of what a question gathers.
func Kinds(q api.Query) []int {
	kinds := make([]int, len(q.Aggs))
	for i, a := range q.Aggs {
		kinds[i] = a.Kind
	}
	return kinds
}

// Take an event of a part of which it is known up to a time (if it is known): what a question asks of it is put into the
// pane of each window that its time is in, rising, but where that is too late: how often.
func Take(q api.Query, x api.Event, upto int, known bool, put func(start int, key api.Value, vals []api.Value)) (late int) {
	if !asked(q, x) {
		return 0
	}
	key, vals := keyOf(q, x), valsOf(q, x)
	for _, start := range window.Starts(x.Time, q.Size, q.Slide) {
		if known && start+q.Size+q.Late <= upto {
			late++
			continue
		}
		put(start, key, vals)
	}
	return late
}

// asked: what isn't known to be so isn't asked for.
func asked(q api.Query, x api.Event) bool {
	return len(q.Where) == 0 || expr.Eval(q.Where, x) == value.Truth(true)
}

func keyOf(q api.Query, x api.Event) api.Value {
	if len(q.By) == 0 {
		return value.Null()
	}
	return expr.Eval(q.By, x)
}

// valsOf an event, one for each that is gathered; all are counted without asking of what.
func valsOf(q api.Query, x api.Event) []api.Value {
	vals := make([]api.Value, len(q.Aggs))
	for i, a := range q.Aggs {
		if a.Kind != api.Count {
			vals[i] = expr.Eval(a.Of, x)
		}
	}
	return vals
}
