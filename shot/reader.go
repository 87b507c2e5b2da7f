package shot

import (
	"cmp"
	"slices"

	"penstock/api"
	"penstock/engine"
	"penstock/gather"
	"penstock/panes"
	"penstock/value"
)

// reader of the numbers of a text; bad: they are of no engine.
type reader struct {
	kinds []int // of what is gathered
	rest  []int
	bad   bool
}

// fill an engine that is new.
func (r *reader) fill(e *engine.Engine) {
	r.must(r.number() == len(e.Read))
	for part := range e.Read {
		e.Read[part] = r.number()
	}
	for part := range e.Clock.Greatest {
		e.Clock.Greatest[part] = r.number()
	}
	e.Late = r.number()
	have := make([]api.Pane, r.many())
	for i := range have {
		have[i] = r.out()
	}
	e.Rows = make([]api.Row, r.many())
	for i := range e.Rows {
		e.Rows[i] = r.row(have)
	}
	e.Table.L = make([]panes.Pane, r.many())
	for i := range e.Table.L {
		e.Table.L[i] = r.pane(have)
		r.must(i == 0 || ahead(e.Table.L[i-1], e.Table.L[i]))
	}
}

// must be so, or it is no text of an engine.
func (r *reader) must(is bool) { r.bad = r.bad || !is }

// number that comes next.
func (r *reader) number() int {
	if len(r.rest) == 0 {
		r.bad = true
		return 0
	}
	n := r.rest[0]
	r.rest = r.rest[1:]
	return n
}

// many things, each of at least one number of those that are left.
func (r *reader) many() int {
	n := r.number()
	if n < 0 || n > len(r.rest) {
		r.bad = true
		return 0
	}
	return n
}

func (r *reader) value() api.Value {
	v := decode(r.number())
	r.must(value.Check(v) == nil)
	return v
}

func (r *reader) out() api.Pane {
	p := api.Pane{Start: r.number(), Key: r.value(), Vals: make([]api.Value, len(r.kinds))}
	for i := range p.Vals {
		p.Vals[i] = r.value()
	}
	return p
}

// flagged out, of those that there are, and its flag.
func (r *reader) flagged(have []api.Pane) (api.Pane, bool) {
	n := r.number()
	if n < 0 || n/2 >= len(have) {
		r.bad = true
		return api.Pane{Vals: make([]api.Value, len(r.kinds))}, false
	}
	p := have[n/2]
	p.Vals = slices.Clone(p.Vals)
	return p, n%2 == 1
}

func (r *reader) row(have []api.Pane) api.Row {
	p, gone := r.flagged(have)
	return api.Row{Gone: gone, Pane: p}
}

func (r *reader) pane(have []api.Pane) panes.Pane {
	p, told := r.flagged(have)
	accs := make([]gather.Acc, len(r.kinds))
	for i, kind := range r.kinds {
		accs[i] = r.acc(kind, p.Vals[i])
	}
	return panes.Pane{Start: p.Start, Key: p.Key, Accs: accs, Told: told}
}

// acc of a kind that has a value.
func (r *reader) acc(kind int, v api.Value) gather.Acc {
	a := gather.New(kind)
	if hidden(kind, v) {
		if a.Sum = r.number(); a.Sum != 0 {
			a.N = 1
		}
		return a
	}
	if kind == api.Count || kind == api.CountOf {
		a.N = v.N
		return a
	}
	return a.Add(v)
}

// ahead: is a pane ahead of another one in a table?
func ahead(a, b panes.Pane) bool {
	return cmp.Or(cmp.Compare(a.Start, b.Start), value.Compare(a.Key, b.Key)) < 0
}
