package value_test

import (
	"cmp"
	"math"
	"strings"
	"testing"

	"penstock/api"
	"penstock/value"
)

var (
	null = api.Value{}
	no   = api.Value{Kind: 2}
	yes  = api.Value{Kind: 2, N: 1}
)

func num(n int) api.Value { return api.Value{Kind: 1, N: n} }

// rising: values that may be, each above the one ahead of it.
func rising() []api.Value {
	return []api.Value{null, num(-1000000000), num(-999999999), num(-31623), num(-31622), num(-2), num(-1), num(0), num(1), num(2), num(7), num(31622), num(31623), num(999999999), num(1000000000), no, yes}
}

// wild: values that may not be.
func wild() []api.Value {
	return []api.Value{{Kind: 0, N: 1}, {Kind: 0, N: -1}, num(1000000001), num(-1000000001), num(math.MaxInt), num(math.MinInt), {Kind: 2, N: 2}, {Kind: 2, N: -1}, {Kind: 3}, {Kind: -1}, {Kind: math.MaxInt, N: 1}, {Kind: math.MinInt, N: math.MinInt}}
}

func TestA1Making(t *testing.T) {
	if v := value.Null(); v != null {
		t.Errorf("Null() = %v", v)
	}
	if v := value.Truth(false); v != no {
		t.Errorf("Truth(false) = %v", v)
	}
	if v := value.Truth(true); v != yes {
		t.Errorf("Truth(true) = %v", v)
	}
	for _, n := range []int{0, 1, -1, 42, 999999999, 1000000000, -1000000000} {
		if v := value.Number(n); v != num(n) {
			t.Errorf("Number(%d) = %v", n, v)
		}
	}
	for _, n := range []int{1000000001, -1000000001, math.MaxInt32, math.MaxInt, math.MinInt} {
		if v := value.Number(n); v != null {
			t.Errorf("Number(%d) = %v, nothing is wanted", n, v)
		}
	}
}

func TestA1Check(t *testing.T) {
	for _, v := range rising() {
		if err := value.Check(v); err != nil {
			t.Errorf("Check(%v) = %v", v, err)
		}
	}
	for _, v := range wild() {
		if err := value.Check(v); err != api.ErrShape {
			t.Errorf("Check(%v) = %v, ErrShape is wanted", v, err)
		}
	}
}

// TestA2Truths: And and Or of all that may be, a number standing for what is neither so nor not so.
func TestA2Truths(t *testing.T) {
	four := []api.Value{no, yes, null, num(1)}
	and := [4][4]api.Value{{no, no, no, no}, {no, yes, null, null}, {no, null, null, null}, {no, null, null, null}}
	or := [4][4]api.Value{{no, yes, null, null}, {yes, yes, yes, yes}, {null, yes, null, null}, {null, yes, null, null}}
	for i, a := range four {
		for j, b := range four {
			if v := value.Do(api.And, a, b); v != and[i][j] {
				t.Errorf("%v and %v = %v", a, b, v)
			}
			if v := value.And(a, b); v != and[i][j] {
				t.Errorf("And(%v, %v) = %v", a, b, v)
			}
			if v := value.Do(api.Or, a, b); v != or[i][j] {
				t.Errorf("%v or %v = %v", a, b, v)
			}
		}
	}
}

// bounded: what Number is to be.
func bounded(n int) api.Value {
	if n > 1000000000 || n < -1000000000 {
		return null
	}
	return num(n)
}

func truth(is bool) api.Value {
	if is {
		return yes
	}
	return no
}

func TestA2Numbers(t *testing.T) {
	for _, a := range rising() {
		for _, b := range rising() {
			want := [5]api.Value{}
			if a.Kind == 1 && b.Kind == 1 {
				want = [5]api.Value{bounded(a.N + b.N), bounded(a.N - b.N), bounded(a.N * b.N), truth(a.N < b.N), truth(a.N == b.N)}
			}
			for i, op := range []int{api.Add, api.Sub, api.Mul, api.Less, api.Same} {
				if v := value.Do(op, a, b); v != want[i] {
					t.Errorf("Do(%d, %v, %v) = %v, %v is wanted", op, a, b, v, want[i])
				}
			}
		}
	}
}

func TestA2Edges(t *testing.T) {
	for _, c := range []struct {
		op         int
		a, b, want api.Value
	}{
		{api.Add, num(999999999), num(1), num(1000000000)},
		{api.Add, num(1000000000), num(1), null},
		{api.Sub, num(-1000000000), num(1), null},
		{api.Sub, num(3), num(5), num(-2)},
		{api.Mul, num(31622), num(31622), num(999950884)},
		{api.Mul, num(31623), num(31623), null},
		{api.Mul, num(1000000000), num(-1000000000), null},
		{api.Mul, num(1000000000), num(-1), num(-1000000000)},
		{api.Less, null, num(1), null},
		{api.Less, no, yes, null},
		{api.Same, null, null, null},
		{api.Same, yes, yes, null},
		{api.Same, num(0), no, null},
	} {
		if v := value.Do(c.op, c.a, c.b); v != c.want {
			t.Errorf("Do(%d, %v, %v) = %v, %v is wanted", c.op, c.a, c.b, v, c.want)
		}
	}
}

func TestA2OtherKindsOfNodes(t *testing.T) {
	for _, op := range []int{math.MinInt, -1, 0, api.Const, api.Field, api.Neg, api.Not, api.IsNull, 13, 14, math.MaxInt} {
		for _, a := range rising() {
			for _, b := range rising() {
				if v := value.Do(op, a, b); v != null {
					t.Errorf("Do(%d, %v, %v) = %v, nothing is wanted", op, a, b, v)
				}
			}
		}
	}
}

func TestA2NotNeg(t *testing.T) {
	for _, v := range rising() {
		not, neg := null, null
		switch v.Kind {
		case 1:
			neg = num(-v.N)
		case 2:
			not = truth(v.N == 0)
		}
		if x := value.Not(v); x != not {
			t.Errorf("Not(%v) = %v", v, x)
		}
		if x := value.Neg(v); x != neg {
			t.Errorf("Neg(%v) = %v", v, x)
		}
	}
}

func TestA3Compare(t *testing.T) {
	l := rising()
	for i, a := range l {
		for j, b := range l {
			if c := value.Compare(a, b); cmp.Compare(c, 0) != cmp.Compare(i, j) {
				t.Errorf("Compare(%v, %v) = %d", a, b, c)
			}
		}
	}
}

func TestA3Text(t *testing.T) {
	for _, c := range []struct {
		v api.Value
		s string
	}{{null, "null"}, {no, "false"}, {yes, "true"}, {num(0), "0"}, {num(7), "7"}, {num(-7), "-7"}, {num(10), "10"}, {num(1000000000), "1000000000"}, {num(-1000000000), "-1000000000"}} {
		if s := value.Text(c.v); s != c.s {
			t.Errorf("Text(%v) = %q", c.v, s)
		}
		if v, err := value.Parse(c.s); v != c.v || err != nil {
			t.Errorf("Parse(%q) = %v, %v", c.s, v, err)
		}
	}
	for _, v := range rising() {
		if x, err := value.Parse(value.Text(v)); x != v || err != nil {
			t.Errorf("Parse(Text(%v)) = %v, %v", v, x, err)
		}
	}
}

func TestA3WrongTexts(t *testing.T) {
	for _, s := range []string{"", " ", "nul", "nulll", "NULL", "Null", "True", "TRUE", "truefalse", "null ", " null", "-", "--7", "+7", "07", "-07", "00", "-0", "7 ", " 7", "7\n", "7.0", "1e3", "1_000", "0x7", "x", "- 7", "1000000001", "-1000000001", "99999999999999999999999", "18446744073709551623", "\x00", "\xff", "7\x00", "٧", strings.Repeat("9", 5000), strings.Repeat("0", 5000)} {
		if v, err := value.Parse(s); v != null || err != api.ErrText {
			t.Errorf("Parse(%.20q) = %v, %v, ErrText is wanted", s, v, err)
		}
	}
}

// TestZ1: whatever is handed in, nothing panics.
func TestZ1(t *testing.T) {
	all := append(rising(), wild()...)
	for _, a := range all {
		value.Not(a)
		value.Neg(a)
		value.Text(a)
		for _, b := range all {
			value.And(a, b)
			value.Compare(a, b)
			for op := -2; op < 16; op++ {
				value.Do(op, a, b)
			}
		}
	}
}
