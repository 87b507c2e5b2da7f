package shot

import (
	"iter"

	"penstock/api"
)

// A number is written in pieces of width bits, the lowest ones first, one a byte; all bytes but its last have the bit
// more. Its sign is the lowest bit, so that numbers near 0 are short on both sides.
const (
	width = 7
	more  = 1 << width
)

func appendNumber(b []byte, n int) []byte {
	u := uint64(n) << 1
	if n < 0 {
		u = ^u
	}
	for ; u >= more; u >>= width {
		b = append(b, byte(u)|more)
	}
	return append(b, byte(u))
}

// numbers of a text, one behind the other, up to one that has no end.
func numbers(s string) iter.Seq[int] {
	return func(yield func(int) bool) {
		for from := 0; from < len(s); {
			n, size := first(s[from:])
			if size == 0 || !yield(n) {
				return
			}
			from += size
		}
	}
}

// first number of a text, and its bytes; none: it has no end.
func first(s string) (n, size int) {
	var u uint64
	for i := range len(s) {
		u |= uint64(s[i]%more) << (width * i)
		if s[i] >= more {
			continue
		}
		if n = int(u >> 1); u%2 == 1 {
			n = ^n
		}
		return n, i + 1
	}
	return 0, 0
}

// forms: how many kinds of values there are. A value is written as one number, its kind is what is left of that.
const forms = 3

func code(v api.Value) int { return v.N*forms + v.Kind }

func decode(n int) api.Value {
	kind := (n%forms + forms) % forms
	return api.Value{Kind: kind, N: (n - kind) / forms}
}
