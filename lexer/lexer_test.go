package lexer_test

import (
	"slices"
	"strings"
	"testing"

	"penstock/api"
	"penstock/lexer"
)

func TestB1Words(t *testing.T) {
	for _, c := range []struct {
		s    string
		want []string
	}{
		{"", nil},
		{"    ", nil},
		{"select", []string{"select"}},
		{"  a  b ", []string{"a", "b"}},
		{"ab12cd", []string{"ab", "12", "cd"}},
		{"007", []string{"007"}},
		{"99999999999999999999999", []string{"99999999999999999999999"}},
		{"az09", []string{"az", "09"}},
		{"count(*),sum(a)", []string{"count", "(", "*", ")", ",", "sum", "(", "a", ")"}},
		{"a<=b", []string{"a", "<=", "b"}},
		{"a< =b", []string{"a", "<", "=", "b"}},
		{"<>=", []string{"<>", "="}},
		{"<=>", []string{"<=", ">"}},
		{"<<=", []string{"<", "<="}},
		{">>=", []string{">", ">="}},
		{">=<", []string{">=", "<"}},
		{"==", []string{"=", "="}},
		{"=<", []string{"=", "<"}},
		{"><", []string{">", "<"}},
		{"<", []string{"<"}},
		{"<<>>", []string{"<", "<>", ">"}},
		{"a--b+*-3", []string{"a", "-", "-", "b", "+", "*", "-", "3"}},
		{"select count(*) from events where a is not null window 10", []string{"select", "count", "(", "*", ")", "from", "events", "where", "a", "is", "not", "null", "window", "10"}},
	} {
		if l, err := lexer.Words(c.s); err != nil || !slices.Equal(l, c.want) {
			t.Errorf("Words(%q) = %q, %v", c.s, l, err)
		}
	}
}

// TestB1Bytes: each byte alone, and each one between two words.
func TestB1Bytes(t *testing.T) {
	for i := range 256 {
		c := byte(i)
		letter, digit := 'a' <= c && c <= 'z', '0' <= c && c <= '9'
		sign := strings.Contains("(),*+-<>=", string([]byte{c})) && c < 128
		alone, err := lexer.Words(string([]byte{c}))
		between, err2 := lexer.Words(string([]byte{'a', c, '1'}))
		switch s := string([]byte{c}); {
		case c == ' ':
			wantWords(t, i, alone, err, nil)
			wantWords(t, i, between, err2, []string{"a", "1"})
		case letter:
			wantWords(t, i, alone, err, []string{s})
			wantWords(t, i, between, err2, []string{"a" + s, "1"})
		case digit:
			wantWords(t, i, alone, err, []string{s})
			wantWords(t, i, between, err2, []string{"a", s + "1"})
		case sign:
			wantWords(t, i, alone, err, []string{s})
			wantWords(t, i, between, err2, []string{"a", s, "1"})
		default:
			wantError(t, s, api.ErrText)
			wantError(t, "a"+s+"1", api.ErrText)
		}
	}
}

func wantWords(t *testing.T, c int, l []string, err error, want []string) {
	t.Helper()
	if err != nil || !slices.Equal(l, want) {
		t.Errorf("byte %d: %q, %v, %q is wanted", c, l, err, want)
	}
}

// wantError: that one, bare, and no words beside it.
func wantError(t *testing.T, s string, want api.Errno) {
	t.Helper()
	if l, err := lexer.Words(s); err != want || len(l) != 0 {
		t.Errorf("Words(%.20q) = %.20q, %v, %v is wanted", s, l, err, want)
	}
}

func TestB1WrongBytes(t *testing.T) {
	for _, s := range []string{"A", "selecT", "a\tb", "a\n", "a_b", "a.b", "!=", "a;", "\"a\"", "é", "a\x00", "a\xffb", "a/b", "[", "`", "{", "@", ":"} {
		wantError(t, s, api.ErrText)
	}
}

func TestB1HowLong(t *testing.T) {
	for _, s := range []string{strings.Repeat("a", 240), strings.Repeat("7", 240)} {
		if l, err := lexer.Words(s); err != nil || !slices.Equal(l, []string{s}) {
			t.Errorf("240 bytes: %q, %v", l, err)
		}
	}
	if l, err := lexer.Words(strings.Repeat(" ", 240)); err != nil || len(l) != 0 {
		t.Errorf("240 blanks: %q, %v", l, err)
	}
	wantError(t, strings.Repeat("a", 241), api.ErrMany)
	wantError(t, strings.Repeat(" ", 241), api.ErrMany)
	wantError(t, strings.Repeat("?", 240), api.ErrText)
	wantError(t, "?"+strings.Repeat("a", 240), api.ErrMany)
	wantError(t, strings.Repeat("é", 121), api.ErrMany)
	wantError(t, strings.Repeat("?", 1<<20), api.ErrMany)
}

func TestB1HowMany(t *testing.T) {
	for _, s := range []string{strings.Repeat("(", 80), strings.Repeat("a ", 80), strings.Repeat("a1", 40), strings.Repeat("<=", 80) + "  "} {
		if l, err := lexer.Words(s); err != nil || len(l) != 80 {
			t.Errorf("Words(%q): %d words, %v", s, len(l), err)
		}
	}
	wantError(t, strings.Repeat("(", 81), api.ErrMany)
	wantError(t, strings.Repeat("a ", 80)+"a", api.ErrMany)
	wantError(t, strings.Repeat("<=", 80)+"<", api.ErrMany)
	wantError(t, strings.Repeat("(", 240), api.ErrMany)
}

// TestB1FirstError: what is come to first is told.
func TestB1FirstError(t *testing.T) {
	wantError(t, strings.Repeat("(", 80)+"?", api.ErrText)
	wantError(t, strings.Repeat("(", 80)+" ?(", api.ErrText)
	wantError(t, strings.Repeat("(", 81)+"?", api.ErrMany)
	wantError(t, strings.Repeat("(", 80)+"aa?", api.ErrMany)
	wantError(t, "?"+strings.Repeat("(", 81), api.ErrText)
	wantError(t, strings.Repeat("(", 79)+"?"+strings.Repeat("(", 9), api.ErrText)
}

// TestZ2: what comes out is the caller's.
func TestZ2(t *testing.T) {
	one, _ := lexer.Words("a < b")
	two, _ := lexer.Words("a < b")
	one[0] = "x"
	_ = append(one[:1], "y")
	if !slices.Equal(two, []string{"a", "<", "b"}) {
		t.Errorf("the second list is %q", two)
	}
}
