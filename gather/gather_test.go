package gather_test

import (
	"math"
	"testing"

	"penstock/api"
	"penstock/gather"
	"penstock/value"
)

var (
	null = api.Value{}
	no   = api.Value{Kind: 2}
	yes  = api.Value{Kind: 2, N: 1}
)

func num(n int) api.Value { return api.Value{Kind: 1, N: n} }

// gathered: what there is of some values.
func gathered(kind int, vals ...api.Value) gather.Acc {
	a := gather.New(kind)
	for _, v := range vals {
		a = a.Add(v)
	}
	return a
}

func TestH1(t *testing.T) {
	most := num(1000000000)
	least := num(-1000000000)
	for _, c := range []struct {
		vals                         []api.Value
		count, countOf, sum, low, up api.Value
	}{
		{nil, num(0), num(0), null, null, null},
		{[]api.Value{null}, num(1), num(0), null, null, null},
		{[]api.Value{null, null, null}, num(3), num(0), null, null, null},
		{[]api.Value{num(0)}, num(1), num(1), num(0), num(0), num(0)},
		{[]api.Value{num(7)}, num(1), num(1), num(7), num(7), num(7)},
		{[]api.Value{num(-7)}, num(1), num(1), num(-7), num(-7), num(-7)},
		{[]api.Value{null, num(7), null}, num(3), num(1), num(7), num(7), num(7)},
		{[]api.Value{num(4), num(-9), num(2)}, num(3), num(3), num(-3), num(-9), num(4)},
		{[]api.Value{num(-9), num(4), null, num(2)}, num(4), num(3), num(-3), num(-9), num(4)},
		{[]api.Value{num(5), num(5)}, num(2), num(2), num(10), num(5), num(5)},
		{[]api.Value{num(5), num(-5)}, num(2), num(2), num(0), num(-5), num(5)},
		{[]api.Value{num(-5), num(-2), num(-8)}, num(3), num(3), num(-15), num(-8), num(-2)},
		{[]api.Value{num(5), num(2), num(8)}, num(3), num(3), num(15), num(2), num(8)},
		// Sums up to the bound, beyond it, and back.
		{[]api.Value{most}, num(1), num(1), most, most, most},
		{[]api.Value{num(999999999), num(1)}, num(2), num(2), most, num(1), num(999999999)},
		{[]api.Value{most, num(1)}, num(2), num(2), null, num(1), most},
		{[]api.Value{most, num(1), num(-1)}, num(3), num(3), most, num(-1), most},
		{[]api.Value{most, most, most, least, least}, num(5), num(5), most, least, most},
		{[]api.Value{least}, num(1), num(1), least, least, least},
		{[]api.Value{least, num(-1)}, num(2), num(2), null, least, num(-1)},
		{[]api.Value{least, num(-1), null, num(1)}, num(4), num(3), least, least, num(1)},
		{[]api.Value{least, least, most, most}, num(4), num(4), num(0), least, most},
	} {
		for kind, want := range map[int]api.Value{api.Count: c.count, api.CountOf: c.countOf, api.Sum: c.sum, api.Min: c.low, api.Max: c.up} {
			if v := gathered(kind, c.vals...).Value(); v != want {
				t.Errorf("kind %d of %v: %v, %v is wanted", kind, c.vals, v, want)
			}
		}
	}
}

// TestH1Truths: truths are counted, so or not so.
func TestH1Truths(t *testing.T) {
	l := []api.Value{yes, no, null, no, num(0)}
	if v := gathered(api.Count, l...).Value(); v != num(5) {
		t.Errorf("Count: %v", v)
	}
	if v := gathered(api.CountOf, l...).Value(); v != num(4) {
		t.Errorf("CountOf: %v", v)
	}
	if v := gathered(api.CountOf, no).Value(); v != num(1) {
		t.Errorf("CountOf one that isn't so: %v", v)
	}
}

// TestH1AsItWas: what is added to is as it was; the kind stays.
func TestH1AsItWas(t *testing.T) {
	for kind := api.Count; kind <= api.Max; kind++ {
		if a := gather.New(kind); a.Kind != kind {
			t.Errorf("New(%d): %v", kind, a)
		}
		a := gathered(kind, num(3))
		was, v := a, a.Value()
		for _, x := range []api.Value{num(-4), num(40), null} {
			if b := a.Add(x); b.Kind != kind {
				t.Errorf("kind %d is %d now", kind, b.Kind)
			}
		}
		if a != was || a.Value() != v {
			t.Errorf("kind %d: %v was changed to %v", kind, was, a)
		}
	}
}

type die uint64

func (d *die) n(most int) int {
	*d = *d*6364136223846793005 + 1442695040888963407
	return int(uint64(*d>>33) % uint64(most))
}

// counted: what a kind's value is, of all values at once.
func counted(kind int, vals []api.Value) api.Value {
	var l []int
	for _, v := range vals {
		if v != null {
			l = append(l, v.N)
		}
	}
	if kind == api.Count {
		return num(len(vals))
	}
	if kind == api.CountOf {
		return num(len(l))
	}
	if len(l) == 0 {
		return null
	}
	sum, low, up := 0, l[0], l[0]
	for _, n := range l {
		sum, low, up = sum+n, min(low, n), max(up, n)
	}
	switch {
	case kind == api.Min:
		return num(low)
	case kind == api.Max:
		return num(up)
	case sum < -1000000000 || sum > 1000000000:
		return null
	}
	return num(sum)
}

// TestH1Drawn: values as they are drawn, held against all at once, step by step; once they are put together the other
// way round, what there is goes on alike.
func TestH1Drawn(t *testing.T) {
	d := die(8)
	for range 2000 {
		kind := 1 + d.n(5)
		var vals []api.Value
		a := gather.New(kind)
		for range d.n(9) {
			v := []api.Value{null, num(d.n(7) - 3), num(d.n(2000001)*1000 - 1000000000), num(1000000000), num(-1000000000)}[d.n(5)]
			vals, a = append(vals, v), a.Add(v)
			if got, want := a.Value(), counted(kind, vals); got != want {
				t.Fatalf("kind %d of %v: %v, %v is wanted", kind, vals, got, want)
			}
		}
		back := gather.New(kind)
		for i := len(vals) - 1; i >= 0; i-- {
			back = back.Add(vals[i])
		}
		if back != a {
			t.Fatalf("kind %d of %v: %v, from behind %v", kind, vals, a, back)
		}
	}
}

// TestH1Alike: what goes on alike is alike: nothing is kept that no value hangs on.
func TestH1Alike(t *testing.T) {
	for _, c := range []struct {
		kind int
		a, b []api.Value
	}{
		{api.Count, []api.Value{num(3), null}, []api.Value{yes, num(-8)}},
		{api.CountOf, []api.Value{num(3), null}, []api.Value{num(-8)}},
		{api.Sum, []api.Value{num(3), num(4)}, []api.Value{num(7)}},
		{api.Min, []api.Value{num(3), num(4), num(5)}, []api.Value{num(3)}},
		{api.Max, []api.Value{num(5), num(4), num(3)}, []api.Value{num(5), num(5)}},
	} {
		if a, b := gathered(c.kind, c.a...), gathered(c.kind, c.b...); a != b {
			t.Errorf("kind %d: of %v %v, of %v %v", c.kind, c.a, a, c.b, b)
		}
	}
}

// TestZ1: no kind and no value makes it panic, and what it tells may always be.
func TestZ1(t *testing.T) {
	kinds := []int{math.MinInt, -1, 0, 1, 2, 3, 4, 5, 6, math.MaxInt}
	wild := []api.Value{null, no, yes, num(1), num(math.MaxInt), num(math.MinInt), num(1000000001), {Kind: 2, N: 2}, {Kind: 3}, {Kind: -1, N: 5}, {N: 1}, {Kind: math.MaxInt, N: math.MinInt}}
	for _, kind := range kinds {
		for _, v := range wild {
			for _, w := range wild {
				if x := gathered(kind, v, w, v).Value(); value.Check(x) != nil {
					t.Errorf("kind %d of %v and %v: %v may not be", kind, v, w, x)
				}
			}
		}
		if a := gathered(kind, num(1)); (kind < 1 || kind > 5) && a.Value() != null {
			t.Errorf("kind %d, of which there is none, has %v", kind, a.Value())
		}
	}
}
