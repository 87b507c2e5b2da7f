package shot

import (
	"penstock/api"
	"penstock/panes"
)

// outs of panes, as they are met: each is written once, and has its number from then on.
type outs struct {
	text []byte
	at   map[string]int
}

// number of an out.
func (o *outs) number(p api.Pane) int {
	b := appendNumber(nil, p.Start)
	b = appendNumber(b, code(p.Key))
	for _, v := range p.Vals {
		b = appendNumber(b, code(v))
	}
	at, is := o.at[string(b)]
	if !is {
		at = len(o.at)
		o.at[string(b)] = at
		o.text = append(o.text, b...)
	}
	return at
}

// rows: how many, and of each its out, and whether that is gone.
func (o *outs) rows(l []api.Row) []byte {
	b := appendNumber(nil, len(l))
	for _, r := range l {
		b = appendNumber(b, flagged(o.number(r.Pane), r.Gone))
	}
	return b
}

// panes: how many, and of each its out, whether that was told, and the sums that it does not show.
func (o *outs) panes(l []panes.Pane) []byte {
	b := appendNumber(nil, len(l))
	for _, p := range l {
		out := p.Out()
		b = appendNumber(b, flagged(o.number(out), p.Told))
		for i, a := range p.Accs {
			if hidden(a.Kind, out.Vals[i]) {
				b = appendNumber(b, a.Sum)
			}
		}
	}
	return b
}

// flagged: a number and a flag, as one number.
func flagged(n int, flag bool) int {
	if flag {
		return 2*n + 1
	}
	return 2 * n
}

// hidden: does a value not show what was gathered? A sum that is nothing may be one beyond Most, that comes back.
func hidden(kind int, v api.Value) bool { return kind == api.Sum && v.Kind == api.Null }
