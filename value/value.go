// Package value: values, of which some are nothing.
package value

import (
	"cmp"
	"strconv"

	"penstock/api"
)

// Null is nothing.
func Null() api.Value { return api.Value{} }

// Number: nothing, if it is too great.
func Number(n int) api.Value {
	if n < -api.Most || n > api.Most {
		return Null()
	}
	return api.Value{Kind: api.Number, N: n}
}

// Truth of what is so.
func Truth(is bool) api.Value {
	if is {
		return api.Value{Kind: api.Truth, N: 1}
	}
	return api.Value{Kind: api.Truth}
}

// Check a value.
func Check(v api.Value) error {
	may := false
	switch v.Kind {
	case api.Null:
		may = v.N == 0
	case api.Number:
		may = -api.Most <= v.N && v.N <= api.Most
	case api.Truth:
		may = v.N == 0 || v.N == 1
	}
	if !may {
		return api.ErrShape
	}
	return nil
}

// Do what a node with two does.
func Do(op int, a, b api.Value) api.Value {
	switch op {
	case api.And:
		return And(a, b)
	case api.Or:
		return or(a, b)
	}
	if a.Kind != api.Number || b.Kind != api.Number {
		return Null()
	}
	switch op {
	case api.Add:
		return Number(a.N + b.N)
	case api.Sub:
		return Number(a.N - b.N)
	case api.Mul:
		return Number(a.N * b.N)
	case api.Less:
		return Truth(a.N < b.N)
	case api.Same:
		return Truth(a.N == b.N)
	}
	return Null()
}

// And of two: if one is false, it is; else, if both are true, it is; else nothing is known.
func And(a, b api.Value) api.Value {
	switch {
	case a == Truth(false) || b == Truth(false):
		return Truth(false)
	case a == Truth(true) && b == Truth(true):
		return Truth(true)
	}
	return Null()
}

// or of two: as And, the other way round.
func or(a, b api.Value) api.Value {
	switch {
	case a == Truth(true) || b == Truth(true):
		return Truth(true)
	case a == Truth(false) && b == Truth(false):
		return Truth(false)
	}
	return Null()
}

// Not of one.
func Not(a api.Value) api.Value {
	if a.Kind != api.Truth {
		return Null()
	}
	return Truth(a.N == 0)
}

// Neg of one.
func Neg(a api.Value) api.Value {
	if a.Kind != api.Number {
		return Null()
	}
	return Number(-a.N)
}

// Compare two: nothing is least, then numbers, then truths.
func Compare(a, b api.Value) int {
	if a.Kind != b.Kind {
		return cmp.Compare(a.Kind, b.Kind)
	}
	return cmp.Compare(a.N, b.N)
}

// Text of a value.
func Text(v api.Value) string {
	switch {
	case v.Kind == api.Number:
		return strconv.Itoa(v.N)
	case v == Truth(false):
		return "false"
	case v == Truth(true):
		return "true"
	}
	return "null"
}

// Parse a value.
func Parse(s string) (api.Value, error) {
	for _, v := range [3]api.Value{Null(), Truth(false), Truth(true)} {
		if s == Text(v) {
			return v, nil
		}
	}
	n, err := strconv.Atoi(s)
	v := Number(n)
	// Atoi also reads what no value's text looks like: '+7', '007', '-0'.
	if err != nil || s != Text(v) {
		return Null(), api.ErrText
	}
	return v, nil
}
