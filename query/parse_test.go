package query_test

import (
	"slices"
	"strconv"
	"strings"
	"testing"

	"penstock/api"
	"penstock/expr"
	"penstock/lexer"
	"penstock/query"
)

// wantRead: a text is read as just this question.
func wantRead(t *testing.T, s string, want api.Query) {
	t.Helper()
	if q, err := query.Parse(s); err != nil || !same(q, want) {
		t.Errorf("Parse(%q) = %v, %v; %v is wanted", s, q, err, want)
	}
}

// wantError: that one, bare, and nothing beside it.
func wantError(t *testing.T, s string, want error) {
	t.Helper()
	if q, err := query.Parse(s); err != want || !same(q, api.Query{}) {
		t.Errorf("Parse(%q) = %v, %v; %v is wanted", s, q, err, want)
	}
}

// wantInWords: that error, though there are not too many words.
func wantInWords(t *testing.T, s string, want error) {
	t.Helper()
	if l, err := lexer.Words(s); err != nil {
		t.Fatalf("%q: %d words, %v", s, len(l), err)
	}
	wantError(t, s, want)
}

// grouped: a question's text with an expression of whatever type.
func grouped(s string) string { return "select count(*) from events group by " + s + " window 10" }

func TestE3Questions(t *testing.T) {
	less := two(api.Less, a, lit(num(3)))
	for _, c := range []struct {
		s    string
		want api.Query
	}{
		{"select count(*) from events window 10", plain()},
		{"  select count ( * ) from events window 10  ", plain()},
		{"select count(*)from events window10", plain()},
		{"select count(*) from events window 0010", plain()},
		{"select count(*) from events window " + strings.Repeat("0", 180) + "10", plain()},
		{"select count(*) from events window 1", window(1, 1, 0, 0)},
		{"select count(*) from events window 1000", window(1000, 1000, 0, 0)},
		{"select count(*) from events window 10 slide 5", window(10, 5, 0, 0)},
		{"select count(*) from events window 10 delay 5", window(10, 10, 5, 0)},
		{"select count(*) from events window 10 late 5", window(10, 10, 0, 5)},
		{"select count(*) from events window 10 slide 3 late 5", window(10, 3, 0, 5)},
		{"select count(*) from events window 10 delay 3 late 5", window(10, 10, 3, 5)},
		{"select count(*) from events window 10 slide 4 delay 3", window(10, 4, 3, 0)},
		{"select count(*) from events window 1000 slide 250 delay 1000 late 1000", window(1000, 250, 1000, 1000)},
		{"select count(*) from events window 10 slide 010 delay 00 late 0", plain()},
		{"select count(*) from events where true window 10", where(lit(yes))},
		{"select count(*) from events where a<3 window 10", where(less)},
		{"select count(*) from events group by k window 10", by(k)},
		{"select count(*) from events where a<3 group by a<3 window 10", api.Query{Aggs: plain().Aggs, Where: less, By: less, Size: 10, Slide: 10}},
		{"select count(a) from events window 10", of(api.Agg{Kind: api.CountOf, Of: a})},
		{"select count(true) from events window 10", of(api.Agg{Kind: api.CountOf, Of: lit(yes)})},
		{"select sum(a) from events window 10", of(api.Agg{Kind: api.Sum, Of: a})},
		{"select min(a) from events window 10", of(api.Agg{Kind: api.Min, Of: a})},
		{"select max(a) from events window 10", of(api.Agg{Kind: api.Max, Of: a})},
		{"select max((a)) from events window 10", of(api.Agg{Kind: api.Max, Of: a})},
		{"select sum(null), count(*), count(*), min(7) from events window 10", of(api.Agg{Kind: api.Sum, Of: lit(null)}, api.Agg{Kind: api.Count}, api.Agg{Kind: api.Count}, api.Agg{Kind: api.Min, Of: lit(num(7))})},
	} {
		wantRead(t, c.s, c.want)
	}
}

// TestE3Expressions: what goes together with what, and from which side on.
func TestE3Expressions(t *testing.T) {
	not, neg, isNull := api.Not, api.Neg, api.IsNull
	n1, n2 := lit(num(1)), lit(num(2))
	for _, c := range []struct {
		s    string
		want []api.Node
	}{
		{"t", t0}, {"k", k}, {"a", a}, {"b", b},
		{"null", lit(null)}, {"true", lit(yes)}, {"false", lit(no)},
		{"0", lit(num(0))}, {"000", lit(num(0))}, {"007", lit(num(7))}, {"1000000000", lit(num(api.Most))},
		{strings.Repeat("0", 100) + "1000000000", lit(num(api.Most))},
		{"(((a)))", a},
		{"-a", one(neg, a)}, {"--a", one(neg, one(neg, a))}, {"-1", one(neg, n1)}, {"-1000000000", one(neg, lit(num(api.Most)))},
		{"not true", one(not, lit(yes))}, {"not not true", one(not, one(not, lit(yes)))},
		{"a is null", one(isNull, a)}, {"a is not null", one(not, one(isNull, a))},
		{"not a is not null", one(not, one(not, one(isNull, a)))},
		{"a+b is null", one(isNull, two(api.Add, a, b))},
		{"(a is null) is null", one(isNull, one(isNull, a))},
		{"(a<b) is not null", one(not, one(isNull, two(api.Less, a, b)))},
		{"a < b", two(api.Less, a, b)}, {"a > b", two(api.Less, b, a)},
		{"a <= b", one(not, two(api.Less, b, a))}, {"a >= b", one(not, two(api.Less, a, b))},
		{"a = b", two(api.Same, a, b)}, {"a <> b", one(not, two(api.Same, a, b))},
		{"a+1>b*2", two(api.Less, two(api.Mul, b, n2), two(api.Add, a, n1))},
		{"a+1<=b*2", one(not, two(api.Less, two(api.Mul, b, n2), two(api.Add, a, n1)))},
		{"a-1<>b-2", one(not, two(api.Same, two(api.Sub, a, n1), two(api.Sub, b, n2)))},
		{"a-b-k", two(api.Sub, two(api.Sub, a, b), k)}, {"a-(b-k)", two(api.Sub, a, two(api.Sub, b, k))},
		{"a+b-k+t", two(api.Add, two(api.Sub, two(api.Add, a, b), k), t0)},
		{"a*b*k", two(api.Mul, two(api.Mul, a, b), k)}, {"a*(b*k)", two(api.Mul, a, two(api.Mul, b, k))},
		{"a+b*k", two(api.Add, a, two(api.Mul, b, k))}, {"a*b+k", two(api.Add, two(api.Mul, a, b), k)},
		{"(a+b)*k", two(api.Mul, two(api.Add, a, b), k)},
		{"-a*b", two(api.Mul, one(neg, a), b)}, {"-(a*b)", one(neg, two(api.Mul, a, b))},
		{"a*-b", two(api.Mul, a, one(neg, b))}, {"a--b", two(api.Sub, a, one(neg, b))}, {"-a-b", two(api.Sub, one(neg, a), b)},
		{"a=1 and b=1 and k=1", two(api.And, two(api.And, two(api.Same, a, n1), two(api.Same, b, n1)), two(api.Same, k, n1))},
		{"null or true or false", two(api.Or, two(api.Or, lit(null), lit(yes)), lit(no))},
		{"null or true and false", two(api.Or, lit(null), two(api.And, lit(yes), lit(no)))},
		{"null and true or false", two(api.Or, two(api.And, lit(null), lit(yes)), lit(no))},
		{"null and (true or false)", two(api.And, lit(null), two(api.Or, lit(yes), lit(no)))},
		{"not null and true", two(api.And, one(not, lit(null)), lit(yes))}, {"not (null and true)", one(not, two(api.And, lit(null), lit(yes)))},
		{"true or not null", two(api.Or, lit(yes), one(not, lit(null)))},
		{"not a=1", one(not, two(api.Same, a, n1))}, {"not a+1<2", one(not, two(api.Less, two(api.Add, a, n1), n2))},
	} {
		wantRead(t, grouped(c.s), by(c.want))
	}
}

// TestE3Examples: those of the document.
func TestE3Examples(t *testing.T) {
	for s, want := range map[string]string{
		"select count(*), sum(a) from events where a is not null group by k window 10 slide 5 delay 2 late 5": "select count(*), sum(a) from events where (not (a is null)) group by k window 10 slide 5 delay 2 late 5",
		"select max(a + b * 2), count(b < 3 or not a = 1) from events window 7":                               "select max((a + (b * 2))), count(((b < 3) or (not (a = 1)))) from events window 7 slide 7 delay 0 late 0",
	} {
		q, err := query.Parse(s)
		if err != nil || query.Text(q) != want {
			t.Errorf("%q: %q, %v", s, query.Text(q), err)
		}
	}
	wantError(t, "select sum(a < 3) from events window 5", api.ErrShape)
	wantError(t, "select", api.ErrText)
}

// TestE3Wrong: words that may not stand where they stand, or are missing.
func TestE3Wrong(t *testing.T) {
	for _, s := range []string{
		"", "   ", "ask", "from", "select select",
		"select from events window 5", "select , count(*) from events window 5", "select count(*), from events window 5",
		"select count(*) count(*) from events window 5", "select count(*)) from events window 5",
		"select a from events window 5", "select (a) from events window 5", "select 5 from events window 5", "select sum a from events window 5",
		"select count() from events window 5", "select count from events window 5", "select count(* from events window 5", "select count(**) from events window 5",
		"select count(*+a) from events window 5", "select sum(*) from events window 5", "select min(*) from events window 5", "select max(*) from events window 5",
		"select counts(a) from events window 5", "select count(a, b) from events window 5", "select avg(a) from events window 5",
		"select count(*) events window 5", "select count(*) from window 5", "select count(*) from event window 5", "select count(*) from events",
		"select count(*) from events where window 5", "select count(*) from events group k window 5", "select count(*) from events group by window 5",
		"select count(*) from events by k window 5", "select count(*) from events group by k where true window 5", "select count(*) from events where true where true window 5",
		"select count(*) from events group by k, a window 5", "select count(*) from events group by k group by k window 5",
		"select count(*) from events window", "select count(*) from events window a", "select count(*) from events window -5", "select count(*) from events window (5)",
		"select count(*) from events window 1001", "select count(*) from events window 99999999999999999999", "select count(*) from events window 01001",
		"select count(*) from events window 5 slide", "select count(*) from events window 5 slide 1001", "select count(*) from events window 5 slide late 1", "select count(*) from events window 5 slide -1",
		"select count(*) from events window 5 delay", "select count(*) from events window 5 delay 1001", "select count(*) from events window 5 late", "select count(*) from events window 5 late 1001",
		"select count(*) from events window 5 delay 1 slide 5", "select count(*) from events window 5 late 1 delay 1", "select count(*) from events window 5 late 1 slide 5", "select count(*) from events window 5 slide 5 slide 5",
		"select count(*) from events window 5 delay 1 delay 1", "select count(*) from events window 5 late 1 late 1",
		"select count(*) from events window 5 window 5", "select count(*) from events window 5 where true", "select count(*) from events window 5 5", "select count(*) from events window 5 late 1 1", "select count(*) from events window 5 )", "select count(*) from events slide 5",
		"select count(*) from events window 5 select count(*) from events window 5",
	} {
		wantError(t, s, api.ErrText)
	}
	for _, s := range []string{
		"()", "(", ")", "(a", "a)", "((a)", "(a))", "a b", "a 1", "1 a", "1 1", "c", "x", "ab", "events", "select", "nul", "truee", "is", "and", "or", "not", "+", "*", "-", "<",
		"1000000001", "99999999999999999999999999", "01000000001", "-1000000001",
		"a +", "+ a", "a + + b", "a * * b", "* a", "a -", "a * + b", "a and", "and a", "a or or b", "not", "not and a", "a not", "a not b", "a is", "a is not", "a is a", "a is not a", "a is not not null", "a is true", "is null",
		"a is null is null", "a is null < b", "a is null + b", "a < b is null", "a < b < k", "a = b = k", "a < b <> k", "a < = b", "a = < b", "a = > b", "a > < b", "a < < b", "a == b", "< a", "a <",
		"a + not b", "a < not b", "- not a", "a * not b", "a = not b is null", "a , b", "count(a)", "a(b)", "a(", "(*)", "a = (b", "not (a", "-(a", "-", "--", "- )",
	} {
		wantError(t, grouped(s), api.ErrText)
	}
}

// TestE3Words: what the words' package says comes first.
func TestE3Words(t *testing.T) {
	long := "select count(*) from events window " + strings.Repeat("0", 204) + "5"
	wantRead(t, long, window(5, 5, 0, 0))
	wantError(t, long+" ", api.ErrMany)
	wantError(t, "x"+strings.Repeat(" ", 240), api.ErrMany)
	wantError(t, "select count(*) from events window 5;", api.ErrText)
	wantError(t, "Select count(*) from events window 5", api.ErrText)
	wantError(t, "select count(*) from events\nwindow 5", api.ErrText)
	wantError(t, "x "+strings.Repeat("( ", 80), api.ErrMany)
	wantError(t, "select count("+strings.Repeat("(", 13)+"?", api.ErrText)
	most := grouped("(" + strings.Repeat("(a)+", 14) + strings.Repeat("-", 10) + "a)")
	if l, err := lexer.Words(most); err != nil || len(l) != 80 {
		t.Fatalf("%q has %d words, %v", most, len(l), err)
	}
	if _, err := query.Parse(most); err != nil {
		t.Errorf("80 words: %v", err)
	}
	wantError(t, most+" x", api.ErrMany)
}

// TestE3Check: what Check says, of what could be read.
func TestE3Check(t *testing.T) {
	counts := func(n int) string {
		return "select " + strings.Repeat("count(*), ", n-1) + "count(*) from events window "
	}
	if q, err := query.Parse(counts(4) + "5"); err != nil || len(q.Aggs) != 4 {
		t.Errorf("four are gathered: %v, %v", q, err)
	}
	wantError(t, counts(5)+"5", api.ErrMany)
	wantError(t, counts(9)+"0", api.ErrMany)
	wantError(t, counts(5)+"5 5", api.ErrText)
	wantError(t, counts(1)+"0", api.ErrBound)
	wantError(t, counts(1)+"5 slide 0", api.ErrBound)
	wantError(t, counts(1)+"0 slide 5", api.ErrBound)
	wantError(t, counts(1)+"5 slide 6", api.ErrShape)
	wantError(t, counts(1)+"5 slide 1", api.ErrShape)
	wantError(t, counts(1)+"1000 slide 249", api.ErrShape)
	for _, s := range []string{"sum(true)", "min(a<3)", "max(a is null)", "sum(not null)", "count(not a)", "count(-true)", "count(a and b)", "sum((a<3)+1)", "min(a < (b < k))"} {
		wantError(t, "select "+s+" from events window 0", api.ErrShape)
	}
	wantError(t, "select count(*) from events where a window 0", api.ErrShape)
	wantError(t, "select count(*) from events where a+1 window 0", api.ErrShape)
	wantError(t, "select count(*) from events group by not a window 0", api.ErrShape)
	wantError(t, "select sum(true) from events window 5 5", api.ErrText)
	wantError(t, "select sum(true) from events where "+strings.Repeat("not ", 13)+"true window 5", api.ErrMany)
}

func TestE3Deep(t *testing.T) {
	deep := func(n int, words ...string) string {
		s := ""
		for i := range n {
			s += words[i%len(words)]
		}
		return s
	}
	ends := func(s string) string { return strings.Repeat(")", strings.Count(s, "(")) }
	for _, words := range [][]string{{"("}, {"not "}, {"-"}, {"not ", "("}, {"(", "-"}, {"-", "("}, {"(", "not "}, {"(", "-", "(", "not "}} {
		x := "null"
		for _, before := range []string{"select sum(", "select count(*), min(", "select count(*) from events where ", "select count(*) from events group by "} {
			behind := ""
			if strings.HasSuffix(before, "(") {
				behind = ") from events"
			}
			most := before + deep(12, words...)
			if _, err := query.Parse(most + x + ends(deep(12, words...)) + behind + " window 5"); err != nil && err != api.ErrShape {
				t.Errorf("12 deep: %q: %v", most, err)
			}
			over := before + deep(13, words...)
			wantInWords(t, over+x+ends(deep(13, words...))+behind+" window 5", api.ErrMany)
			// The word itself is too deep, whatever comes behind it; but what is wrong ahead of it is told first.
			wantInWords(t, over, api.ErrMany)
			wantInWords(t, over+"window", api.ErrMany)
			wantInWords(t, over+")", api.ErrMany)
			wantInWords(t, most, api.ErrText)
			wantInWords(t, most+"window", api.ErrText)
			wantInWords(t, most+"window "+words[0], api.ErrText)
		}
	}
	wantRead(t, grouped(strings.Repeat("(", 12)+"a"+strings.Repeat(")", 12)), by(a))
	wantRead(t, "select sum("+strings.Repeat("(", 12)+"a"+strings.Repeat(")", 12)+") from events window 10", of(api.Agg{Kind: api.Sum, Of: a}))
	wantRead(t, grouped(strings.Repeat("-", 12)+"a"), by(chain(api.Neg, 13)))
	wantRead(t, grouped(strings.Repeat("not ", 12)+"null"), by(chain(api.Not, 13)))
}

// TestE3DeepAgain: what has ended is not around what follows; 'is not', and '-' between two, go no deeper.
func TestE3DeepAgain(t *testing.T) {
	in := strings.Repeat("(", 12) + "a" + strings.Repeat(")", 12)
	neg := strings.Repeat("-", 12) + "a"
	wantRead(t, grouped(in+"+"+in), by(two(api.Add, a, a)))
	wantRead(t, grouped(neg+"-"+neg), by(two(api.Sub, chain(api.Neg, 13), chain(api.Neg, 13))))
	wantRead(t, grouped(strings.Repeat("not ", 12)+"null and "+strings.Repeat("not ", 12)+"null"), by(two(api.And, chain(api.Not, 13), chain(api.Not, 13))))
	wantRead(t, grouped("(("+neg[2:]+")) is not null"), by(one(api.Not, one(api.IsNull, chain(api.Neg, 11)))))
	wantRead(t, grouped(strings.Repeat("(", 12)+"a is not null"+strings.Repeat(")", 12)), by(one(api.Not, one(api.IsNull, a))))
	wantRead(t, grouped(strings.Repeat("(", 12)+"a-b-k"+strings.Repeat(")", 12)), by(two(api.Sub, two(api.Sub, a, b), k)))
	wantRead(t, "select sum("+in+"), min("+in+") from events window 10", of(api.Agg{Kind: api.Sum, Of: a}, api.Agg{Kind: api.Min, Of: a}))
	wantInWords(t, grouped(strings.Repeat("(", 12)+"a--b"+strings.Repeat(")", 12)), api.ErrMany)
	wantInWords(t, grouped("-("+strings.Repeat("-", 10)+"a)+-("+strings.Repeat("-", 10)+"a)*"+strings.Repeat("-", 13)+"a"), api.ErrMany)
}

// added: so many of a field, added up, so that the nodes are one less than twice as many.
func added(n int) string { return strings.Repeat("a+", n-1) + "a" }

// addedNodes of that text.
func addedNodes(n int) []api.Node {
	l := a
	for range n - 1 {
		l = two(api.Add, l, a)
	}
	return l
}

func TestE3HowMany(t *testing.T) {
	for text, want := range map[string][]api.Node{
		added(20):               addedNodes(20),
		"((" + added(20) + "))": addedNodes(20),
		"-(" + added(20) + ")":  one(api.Neg, addedNodes(20)),
		added(20) + " is null":  one(api.IsNull, addedNodes(20)),
		added(19) + "<a":        two(api.Less, addedNodes(19), a),
		added(19) + "<=a":       one(api.Not, two(api.Less, a, addedNodes(19))),
		"a>=" + added(19):       one(api.Not, two(api.Less, a, addedNodes(19))),
		"-a<>" + added(18):      one(api.Not, two(api.Same, one(api.Neg, a), addedNodes(18))),
	} {
		wantRead(t, grouped(text), by(want))
	}
	wantRead(t, "select sum("+added(15)+"), min("+added(15)+") from events window 10", of(api.Agg{Kind: api.Sum, Of: addedNodes(15)}, api.Agg{Kind: api.Min, Of: addedNodes(15)}))
	for _, s := range []string{
		added(21), added(22), added(32), "--(" + added(20) + ")", added(20) + " is not null", "not (" + added(20) + " is null)",
		"a*(" + added(20) + ")", added(20) + "*a", "-(" + added(20) + ")+a", "(" + added(21) + ")",
		"a<" + added(20), "a>" + added(20), "-a<=" + added(19), added(19) + ">=-a", "a<>" + added(19) + "*a",
		"true and a<" + added(19), "a<" + added(19) + " or true",
	} {
		wantInWords(t, grouped(s), api.ErrMany)
		wantInWords(t, "select count("+s+") from events window 10", api.ErrMany)
		wantInWords(t, "select count(*) from events where "+s+" window 10", api.ErrMany)
	}
}

// TestE3HowManyFirst: a node is put together as soon as its parts are read; what is wrong behind it is told no more, what is wrong ahead is.
func TestE3HowManyFirst(t *testing.T) {
	from := "select count(*) from events where "
	for s, want := range map[string]error{
		added(21):                 api.ErrMany, // and then there is no word any more
		added(21) + " window":     api.ErrMany,
		added(21) + " x":          api.ErrMany,
		added(21) + ")":           api.ErrMany,
		"(" + added(21):           api.ErrMany,
		added(20) + "+":           api.ErrText,
		added(20) + "+x":          api.ErrText,
		added(20) + "+a*":         api.ErrText,
		added(20) + "+a*x":        api.ErrText,
		added(20) + "+(a":         api.ErrText,
		added(20) + "+(a)":        api.ErrMany,
		added(20) + "+1000000001": api.ErrText,
		added(20) + " x " + strings.Repeat("-", 13): api.ErrText,
		added(20) + " is":                         api.ErrText,
		added(20) + " is not":                     api.ErrText,
		added(20) + " is not x":                   api.ErrText,
		added(20) + " is not null":                api.ErrMany,
		added(20) + " is null is":                 api.ErrText,
		added(20) + " is not null is":             api.ErrMany,
		"-(" + added(20) + ") is":                 api.ErrText,
		"-(" + added(20) + ") is x":               api.ErrText,
		"-(" + added(20) + ") is not":             api.ErrText,
		"-(" + added(20) + ") is null":            api.ErrMany,
		"--(" + added(20):                         api.ErrText,
		"--(" + added(20) + ")":                   api.ErrMany,
		"--(" + added(20) + " x":                  api.ErrText,
		added(20) + "<" + "a x":                   api.ErrMany,
		added(20) + "<" + "a+":                    api.ErrText,
		added(20) + "<" + strings.Repeat("-", 13): api.ErrMany,
		strings.Repeat("-", 13) + " x":            api.ErrMany,
		"x " + strings.Repeat("-", 13):            api.ErrText,
	} {
		wantInWords(t, from+s, want)
	}
}

// grown: an expression's words as they may be written, and what they must be read as; deep: how deep its words go.
type grown struct {
	words []string
	nodes []api.Node
	deep  int
	great bool // some node is too much
}

func (g grown) join(op int, x, y []api.Node) grown {
	g.nodes = expr.Join(op, x, y)
	g.great = g.great || len(g.nodes) > 40
	return g
}

// rules of expressions, the outermost first.
const (
	anOr = iota
	anAnd
	aNot
	aCompare
	aSum
	aProduct
	aUnary
	anAtom
)

// grower of expressions: how many more words there is room for, and how often brackets, rows and words ahead are drawn (one in so many).
type grower struct {
	*die
	room                  int
	brackets, rows, ahead int
}

// drawnGrower: some write wide expressions, some deep ones.
func drawnGrower(d *die, most int) *grower {
	return &grower{die: d, room: d.n(most), brackets: 1 + d.n(4), rows: 1 + d.n(8), ahead: 1 + d.n(8)}
}

// draw: is there room, and does it come, one in so many?
func (w *grower) draw(one int) bool {
	if w.room <= 0 || w.n(one) > 0 {
		return false
	}
	w.room--
	return true
}

// grow an expression by one of the rules.
func (w *grower) grow(rule int) grown {
	switch rule {
	case anOr:
		return w.row(anAnd, []string{"or"}, api.Or)
	case anAnd:
		return w.row(aNot, []string{"and"}, api.And)
	case aNot:
		return w.behind(aNot, aCompare, "not", api.Not)
	case aCompare:
		return w.compare()
	case aSum:
		return w.row(aProduct, []string{"+", "-"}, api.Add, api.Sub)
	case aProduct:
		return w.row(aUnary, []string{"*"}, api.Mul)
	case aUnary:
		return w.behind(aUnary, anAtom, "-", api.Neg)
	}
	return w.atom()
}

// row of parts by a rule, with words between that make these nodes.
func (w *grower) row(rule int, words []string, ops ...int) grown {
	g := w.grow(rule)
	for w.draw(w.rows) {
		i := w.n(len(words))
		h := w.grow(rule)
		g = g.with(words[i], h).join(ops[i], g.nodes, h.nodes)
	}
	return g
}

// with another one's words behind a word.
func (g grown) with(word string, h grown) grown {
	return grown{slices.Concat(g.words, []string{word}, h.words), nil, max(g.deep, h.deep), g.great || h.great}
}

// behind a word stands the rule itself; or there is no word, and another rule.
func (w *grower) behind(itself, other int, word string, op int) grown {
	if !w.draw(w.ahead) {
		return w.grow(other)
	}
	g := w.grow(itself)
	g.words = slices.Concat([]string{word}, g.words)
	g.deep++
	return g.join(op, g.nodes, nil)
}

func (w *grower) compare() grown {
	g := w.grow(aSum)
	if !w.draw(3) {
		return g
	}
	switch w.n(4) {
	case 0:
		g.words = slices.Concat(g.words, []string{"is", "null"})
		return g.join(api.IsNull, g.nodes, nil)
	case 1:
		g.words = slices.Concat(g.words, []string{"is", "not", "null"})
		g = g.join(api.IsNull, g.nodes, nil)
		return g.join(api.Not, g.nodes, nil)
	}
	h := w.grow(aSum)
	s := []string{"<", ">", "<=", ">=", "=", "<>"}[w.n(6)]
	x, y := g.nodes, h.nodes
	if s == ">" || s == "<=" {
		x, y = y, x
	}
	op := api.Less
	if s == "=" || s == "<>" {
		op = api.Same
	}
	g = g.with(s, h).join(op, x, y)
	if s == "<=" || s == ">=" || s == "<>" {
		g = g.join(api.Not, g.nodes, nil)
	}
	return g
}

func (w *grower) atom() grown {
	if w.draw(w.brackets) {
		g := w.grow(anOr)
		g.words = slices.Concat([]string{"("}, g.words, []string{")"})
		g.deep++
		return g
	}
	n := w.n(1000)
	words := []string{"t", "k", "a", "b", "null", "true", "false", strconv.Itoa(n), "00" + strconv.Itoa(n), "1000000000"}
	nodes := [][]api.Node{t0, k, a, b, lit(null), lit(yes), lit(no), lit(num(n)), lit(num(n)), lit(num(1000000000))}
	i := w.n(len(words))
	return grown{words: []string{words[i]}, nodes: nodes[i]}
}

// said: words as a text, with blanks where there must be some, and some where there may be.
func said(d *die, words []string) string {
	s := ""
	for i, w := range words {
		letter := func(c byte) bool { return c >= 'a' && c <= 'z' }
		digit := func(c byte) bool { return c >= '0' && c <= '9' }
		if i > 0 {
			p, c := s[len(s)-1], w[0]
			apart := letter(p) && letter(c) || digit(p) && digit(c) || (p == '<' || p == '>') && (c == '>' || c == '=')
			if apart || d.n(4) == 0 {
				s += " "
			}
		}
		s += w
	}
	return s
}

// TestE3Grown: expressions that are written by the rules, against what they must be read as.
func TestE3Grown(t *testing.T) {
	d := die(5)
	var read, deep, great int
	for range 20000 {
		g := drawnGrower(&d, 50).grow(anOr)
		words := slices.Concat([]string{"select", "count", "(", "*", ")", "from", "events", "group", "by"}, g.words, []string{"window", "10"})
		s := said(&d, words)
		if l, err := lexer.Words(s); err != nil || !slices.Equal(l, words) {
			continue
		}
		want := by(g.nodes)
		err := query.Check(want)
		if g.deep > 12 || g.great {
			err = api.ErrMany
		}
		switch {
		case g.deep > 12:
			deep++
		case g.great:
			great++
		case err == nil:
			read++
		}
		if err != nil {
			want = api.Query{}
		}
		if q, e := query.Parse(s); e != err || !same(q, want) {
			t.Fatalf("Parse(%q) = %v, %v; %v, %v is wanted", s, q, e, want, err)
		}
	}
	if read < 1000 || deep < 200 || great < 200 {
		t.Errorf("%d are read, %d are too deep, %d are too great", read, deep, great)
	}
}

// rule: at which places it can end, if it begins at one.
type rule func(words []string, at int) []int

func word(is ...string) rule {
	return func(words []string, at int) []int {
		if at < len(words) && slices.Contains(is, words[at]) {
			return []int{at + 1}
		}
		return nil
	}
}

// digits: a number up to most.
func digits(most int) rule {
	return func(words []string, at int) []int {
		if at == len(words) || strings.Trim(words[at], "0123456789") != "" {
			return nil
		}
		if s := strings.TrimLeft(words[at], "0"); len(s) > 10 || s != "" && len(s) == len(strconv.Itoa(most)) && s > strconv.Itoa(most) || len(s) > len(strconv.Itoa(most)) {
			return nil
		}
		return []int{at + 1}
	}
}

// seq: one behind the other.
func seq(rules ...rule) rule {
	return func(words []string, at int) []int {
		ends := []int{at}
		for _, r := range rules {
			var next []int
			for _, e := range ends {
				next = append(next, r(words, e)...)
			}
			slices.Sort(next)
			ends = slices.Compact(next)
		}
		return ends
	}
}

func either(rules ...rule) rule {
	return func(words []string, at int) []int {
		var ends []int
		for _, r := range rules {
			ends = append(ends, r(words, at)...)
		}
		slices.Sort(ends)
		return slices.Compact(ends)
	}
}

func maybe(r rule) rule { return either(seq(), r) }

// between: r, and any number of times s and r.
func between(r rule, s ...string) rule {
	return func(words []string, at int) []int {
		ends := r(words, at)
		for i := 0; i < len(ends); i++ {
			for _, e := range seq(word(s...), r)(words, ends[i]) {
				if !slices.Contains(ends, e) {
					ends = append(ends, e)
				}
			}
		}
		return ends
	}
}

// grammar: the document's rules, word by word, without any order in which they are tried.
func grammar() rule {
	var expr, not, unary rule
	inner := func(r *rule) rule { return func(words []string, at int) []int { return (*r)(words, at) } }
	atom := either(digits(api.Most), word("null", "true", "false", "t", "k", "a", "b"), seq(word("("), inner(&expr), word(")")))
	unary = either(seq(word("-"), inner(&unary)), atom)
	sum := between(between(unary, "*"), "+", "-")
	compare := either(sum, seq(sum, word("<", ">", "<=", ">=", "=", "<>"), sum), seq(sum, word("is"), maybe(word("not")), word("null")))
	not = either(seq(word("not"), inner(&not)), compare)
	expr = between(between(not, "and"), "or")
	agg := either(seq(word("count"), word("("), word("*"), word(")")), seq(word("count", "sum", "min", "max"), word("("), expr, word(")")))
	n := digits(api.MaxSpan)
	return seq(word("select"), between(agg, ","), word("from"), word("events"), maybe(seq(word("where"), expr)), maybe(seq(word("group"), word("by"), expr)),
		word("window"), n, maybe(seq(word("slide"), n)), maybe(seq(word("delay"), n)), maybe(seq(word("late"), n)))
}

// TestE3Grammar: texts of which a word is gone, more, or another one: those that the rules have are read, the others are not.
func TestE3Grammar(t *testing.T) {
	all := strings.Fields("select count sum min max ( ) ( ) ( ) , * + - < > <= >= = <> and or not is null true false t k a b 0 7 1000 1001 1000000000 1000000001 from events where group by window slide delay late x")
	texts := []string{
		"select count ( * ) , sum ( a ) from events where a is not null group by k window 10 slide 5 delay 2 late 5",
		"select max ( a + b * 2 ) , count ( b < 3 or not a = 1 ) from events window 7",
		"select min ( - ( a - 1 ) ) from events group by ( k ) * 2 window 9 late 3",
		"select count ( a ) , count ( * ) from events where not ( a > 1 and b <> 2 ) or k >= 0 window 8 slide 2",
		"select sum ( null ) from events where a + 1 <= b - 2 group by t is null window 1 delay 9",
	}
	g := grammar()
	d := die(6)
	var right, wrong int
	for range 20000 {
		words := strings.Fields(texts[d.n(len(texts))])
		for range d.n(3) {
			i := d.n(len(words))
			switch d.n(4) {
			case 0:
				words = slices.Delete(words, i, i+1)
			case 1:
				words = slices.Insert(words, i, all[d.n(len(all))])
			case 2:
				words[i] = all[d.n(len(all))]
			case 3:
				j := d.n(len(words))
				words[i], words[j] = words[j], words[i]
			}
		}
		s := strings.Join(words, " ")
		is := slices.Contains(g(words, 0), len(words))
		_, err := query.Parse(s)
		if is == (err == api.ErrText) {
			t.Fatalf("Parse(%q): %v; do the rules have it? %v", s, err, is)
		}
		if is {
			right++
		} else {
			wrong++
		}
	}
	if right < 1000 || wrong < 1000 {
		t.Errorf("%d are right, %d are wrong", right, wrong)
	}
}

// TestW6: what is written is read, where it isn't too much for a text that is read.
func TestW6(t *testing.T) {
	d := die(7)
	var read, below, over int
	for range 30000 {
		q := drawn(&d)
		if query.Check(q) != nil {
			continue
		}
		s := query.Text(q)
		if _, err := lexer.Words(s); err != nil {
			continue
		}
		p, err := query.Parse(s)
		switch isDeep, isGreat := written(q); {
		case isDeep || isGreat:
			wantError(t, s, api.ErrMany)
			over++
		case err != nil:
			t.Fatalf("Parse(%q) = %v", s, err)
		case !strings.Contains(s, "(0 - "):
			read++
			if !same(p, q) {
				t.Fatalf("%v is read as %v of %q", q, p, s)
			}
		default: // what is below 0 is read as so much less than 0
			below++
			if query.Text(p) != s || !alike(&d, p, q) {
				t.Fatalf("%v is read as %v of %q", q, p, s)
			}
		}
	}
	if read < 1000 || below < 300 || over < 100 {
		t.Errorf("%d are read as they were, %d with numbers below 0; %d are too much", read, below, over)
	}
}

// expressions of a question.
func expressions(q api.Query) [][]api.Node {
	all := [][]api.Node{q.Where, q.By}
	for _, x := range q.Aggs {
		all = append(all, x.Of)
	}
	return all
}

// written: is a question's text too deep to be read, or are there too many nodes in it?
func written(q api.Query) (isDeep, isGreat bool) {
	for _, l := range expressions(q) {
		deep, great := make([]int, len(l)), len(l)
		for i, n := range l {
			switch n.Op {
			case api.Const, api.Field:
				if n.Val.N < 0 { // a bracket, and two more nodes
					deep[i], great = 1, great+2
				}
			case api.Neg, api.Not: // a bracket, and the word in it
				deep[i] = deep[n.X] + 2
			case api.IsNull:
				deep[i] = deep[n.X] + 1
			default:
				deep[i] = max(deep[n.X], deep[n.Y]) + 1
			}
			isDeep = isDeep || deep[i] > 12
		}
		isGreat = isGreat || great > 40
	}
	return isDeep, isGreat
}

// drawn: a question, most often one that may be.
func drawn(d *die) api.Query {
	q := window(8, []int{8, 4, 2}[d.n(3)], d.n(20), d.n(20))
	q.Aggs = nil
	for range 1 + d.n(3) {
		x := api.Agg{Kind: 1 + d.n(5)}
		if x.Kind > 1 {
			x.Of = drawnList(d, []int{aSum, anOr}[d.n(2)])
		}
		q.Aggs = append(q.Aggs, x)
	}
	if d.n(2) == 0 {
		q.Where = drawnList(d, anOr)
	}
	if d.n(2) == 0 {
		q.By = drawnList(d, anOr)
	}
	return q
}

// drawnList: an expression, with some of its numbers below 0.
func drawnList(d *die, rule int) []api.Node {
	l := slices.Clone(drawnGrower(d, 20).grow(rule).nodes)
	for i := range l {
		if l[i].Val.Kind == api.Number && d.n(2) == 0 {
			l[i].Val.N = -l[i].Val.N
		}
	}
	return l
}

// alike: do two questions' expressions have the same values at some events?
func alike(d *die, p, q api.Query) bool {
	x, y := expressions(p), expressions(q)
	if len(x) != len(y) {
		return false
	}
	for range 5 {
		e := api.Event{Time: d.n(100), K: num(d.n(9) - 4), A: []api.Value{null, num(d.n(9) - 4)}[d.n(2)], B: num(d.n(2001) - 1000)}
		for i := range x {
			if expr.Eval(x[i], e) != expr.Eval(y[i], e) {
				return false
			}
		}
	}
	return true
}

// TestZ1Texts: whatever the text is, the call ends, and tells an error bare and alone.
func TestZ1Texts(t *testing.T) {
	d := die(9)
	words := strings.Fields("select count sum ( ) ( ) , * + - < > <= = <> and or not is null a b 0 7 1001 from events where group by window slide delay late x ? é")
	for range 20000 {
		s := ""
		for range d.n(60) {
			s += words[d.n(len(words))] + strings.Repeat(" ", d.n(2))
		}
		if d.n(2) == 0 {
			s = "select count(" + s
		}
		q, err := query.Parse(s)
		if _, bare := err.(api.Errno); err != nil && (!bare || q.Aggs != nil || !same(q, api.Query{})) {
			t.Fatalf("Parse(%q) = %v, %v", s, q, err)
		}
	}
	for i := range 256 {
		c := string([]byte{byte(i)})
		query.Parse(c)
		query.Parse("select count(*) from events window 5" + c)
		query.Parse(grouped(c))
	}
	query.Parse(strings.Repeat("(", 1<<20))
}

// TestZ2Answers: what comes out is the caller's, and none of its lists is in another's memory.
func TestZ2Answers(t *testing.T) {
	s := "select sum(a+b), min(a+b), count(*), max(-a) from events where a<b and b<a group by a<b window 5"
	one, err := query.Parse(s)
	if err != nil {
		t.Fatal(err)
	}
	lists := func(q api.Query) [][]api.Node {
		return [][]api.Node{q.Aggs[0].Of, q.Aggs[1].Of, q.Aggs[3].Of, q.Where, q.By}
	}
	for i := range lists(one) {
		q, _ := query.Parse(s)
		l := lists(q)[i]
		l = l[:cap(l)]
		for j := range l {
			l[j] = api.Node{Op: 99}
		}
		for j, m := range lists(q) {
			if i != j && !slices.Equal(m, lists(one)[j]) {
				t.Errorf("list %d is in the memory of list %d", j, i)
			}
		}
	}
	for _, l := range lists(one) {
		l[0] = api.Node{Op: 99}
	}
	one.Aggs[0].Kind = 99
	two, _ := query.Parse(s)
	if want := "select sum((a + b)), min((a + b)), count(*), max((- a)) from events where ((a < b) and (b < a)) group by (a < b) window 5 slide 5 delay 0 late 0"; query.Text(two) != want {
		t.Errorf("the second time it is %q", query.Text(two))
	}
}
