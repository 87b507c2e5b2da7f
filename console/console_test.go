package console_test

import (
	"slices"
	"strconv"
	"strings"
	"testing"

	"penstock/api"
	"penstock/console"
)

// run lines, to each of which there is an answer.
func run(t *testing.T, lines ...string) []string {
	t.Helper()
	l, err := console.Run(lines)
	if err != nil || len(l) != len(lines) {
		t.Fatalf("%d lines: %d answers, %v", len(lines), len(l), err)
	}
	return l
}

// session: lines and what is answered to them, ' => ' between.
func session(t *testing.T, text string) {
	t.Helper()
	var lines, want []string
	for pair := range strings.Lines(strings.TrimPrefix(text, "\n")) {
		line, answer, is := strings.Cut(strings.TrimSuffix(pair, "\n"), " => ")
		if !is {
			t.Fatalf("%q has no answer", pair)
		}
		lines, want = append(lines, line), append(want, answer)
	}
	for i, got := range run(t, lines...) {
		if got != want[i] {
			t.Errorf("%q: %q, not %q", lines[i], got, want[i])
		}
	}
}

// begun: what is answered to a line behind some others, over a stream.
func begun(t *testing.T, line string, ahead ...string) string {
	t.Helper()
	lines := append(append([]string{"ask 2 " + plain}, ahead...), line)
	return run(t, lines...)[len(lines)-1]
}

// plain question.
const plain = "select count(*) from events window 5"

// wrong: an error, as it is answered.
func wrong(n api.Errno) string { return "error " + strconv.Itoa(int(n)) }

// TestExample: the document's session.
func TestExample(t *testing.T) {
	session(t, `
rows => error 8
ask 2 select count(*), sum(a) from events where a is not null group by k window 10 slide 5 delay 2 late 5 => ok
question => select count(*), sum(a) from events where (not (a is null)) group by k window 10 slide 5 delay 2 late 5
put 0 3 1 10 null => ok
put 0 7 2 5 null => ok
put 0 14 1 1 null => ok
put 0 6 1 100 null => ok
put 0 25 1 2 null => ok
put 0 4 1 9 null => ok
put 1 2 2 7 null => ok
put 1 18 2 null null => ok
put 1 30 1 3 null => ok
step 0 => ok
step 0 => ok
step 1 => ok
state => 2 1 upto 0 late 0 kept 5 waiting 0
step 0 => ok
step 1 => ok
state => 3 2 upto 12 late 0 kept 5 waiting 4
save => ok
rows => + -5 1 1 10; + -5 2 1 7; + 0 1 1 10; + 0 2 2 12
step 0 => ok
state => 4 2 upto 12 late 0 kept 5 waiting 2
save => ok
rows => + -5 1 1 10; + -5 2 1 7; + 0 1 1 10; + 0 2 2 12; - 0 1 1 10; + 0 1 2 110
step 0 => ok
step 0 => ok
step 1 => ok
state => 6 3 upto 23 late 2 kept 4 waiting 3
restart 0 => ok
state => 4 2 upto 12 late 0 kept 5 waiting 0
step 0 => ok
step 0 => ok
step 1 => ok
save => ok
rows => + -5 1 1 10; + -5 2 1 7; + 0 1 1 10; + 0 2 2 12; - 0 1 1 10; + 0 1 2 110; + 5 1 2 101; + 5 2 1 5; + 10 1 1 1
answer => -5 1 1 10; -5 2 1 7; 0 1 2 110; 0 2 2 12; 5 1 2 101; 5 2 1 5; 10 1 1 1; 20 1 1 2; 25 1 2 5; 30 1 1 3 late 2
state => 6 3 upto 23 late 2 kept 4 waiting 0
ask 1 select max(a + b * 2), count(b < 3 or not a = 1) from events window 7 => ok
question => select max((a + (b * 2))), count(((b < 3) or (not (a = 1)))) from events window 7 slide 7 delay 0 late 0
put 0 1 null 4 null => ok
put 0 1 null 1001 null => error 1
ask 9 select count(*) from events window 5 => error 1
ask 1 select sum(a < 3) from events window 5 => error 3
ask 1 select => error 4
fly high => error 4
`)
}

// TestQ1Empty: lists that have nothing, and a clock that knows nothing.
func TestQ1Empty(t *testing.T) {
	session(t, `
ask 3 select count(*) from events window 5 => ok
rows => -
answer => - late 0
state => 0 0 0 upto none late 0 kept 0 waiting 0
save => ok
rows => -
ask 1 select count(*) from events where false window 5 => ok
put 0 9999 -1000 1000 null => ok
answer => - late 0
step 0 => ok
state => 1 upto 9999 late 0 kept 0 waiting 0
rows => -
`)
}

// TestQ1Panes: numbers below 0, truths and nothing, as keys and as what is gathered.
func TestQ1Panes(t *testing.T) {
	session(t, `
ask 1 select sum(b), min(a), count(a < b) from events group by a < b window 10 slide 5 delay 1000 late 1000 => ok
put 0 0 null -1000 -3 => ok
put 0 0 null null 1000 => ok
put 0 1 7 5 -1 => ok
answer => -5 null 1000 null 0; -5 false -1 5 1; -5 true -3 -1000 1; 0 null 1000 null 0; 0 false -1 5 1; 0 true -3 -1000 1 late 0
step 0 => ok
state => 1 upto -1000 late 0 kept 2 waiting 0
step 0 => ok
step 0 => ok
put 0 1015 null null null => ok
step 0 => ok
state => 4 upto 15 late 0 kept 8 waiting 6
rows => -
save => ok
rows => + -5 null 1000 null 0; + -5 false -1 5 1; + -5 true -3 -1000 1; + 0 null 1000 null 0; + 0 false -1 5 1; + 0 true -3 -1000 1
ask 1 select max(t) from events group by -k window 5 => ok
put 0 7 1000 null null => ok
put 0 3 -1 null null => ok
answer => 5 -1000 7 late 1
`)
}

// TestQ1Late: what is too late is told of what was read, and of all that there is.
func TestQ1Late(t *testing.T) {
	session(t, `
ask 1 select count(*) from events window 10 slide 5 => ok
put 0 20 null null null => ok
put 0 3 null null null => ok
answer => 15 null 1; 20 null 1 late 2
state => 0 upto none late 0 kept 0 waiting 0
step 0 => ok
state => 1 upto 20 late 0 kept 2 waiting 0
step 0 => ok
state => 2 upto 20 late 2 kept 2 waiting 0
`)
}

// TestQ1Ask: whatever was there is gone behind another ask: source, disk, stream and question.
func TestQ1Ask(t *testing.T) {
	session(t, `
ask 2 select count(*) from events window 5 => ok
put 1 3 null null null => ok
put 0 30 null null null => ok
put 1 30 null null null => ok
step 1 => ok
step 0 => ok
step 1 => ok
save => ok
rows => + 0 null 1
ask 3 select sum(a) from events window 6 => ok
question => select sum(a) from events window 6 slide 6 delay 0 late 0
state => 0 0 0 upto none late 0 kept 0 waiting 0
answer => - late 0
rows => -
restart 0 => ok
state => 0 0 0 upto none late 0 kept 0 waiting 0
step 1 => error 8
put 2 1 null null null => ok
step 2 => ok
`)
}

// TestQ1AskFails: an ask that is answered by an error changes nothing.
func TestQ1AskFails(t *testing.T) {
	session(t, `
ask 2 select count(*) from events window 5 => ok
put 1 3 null null null => ok
step 1 => ok
ask 0 select sum(a) from events window 6 => error 1
ask 4 select sum(a) from events window 6 => error 1
ask 1 select sum(a) from events window 0 => error 1
ask 1 select sum(true) from events window 6 => error 3
ask 1 select sum(a) from events => error 4
ask => error 4
state => 0 1 upto none late 0 kept 1 waiting 0
question => select count(*) from events window 5 slide 5 delay 0 late 0
answer => 0 null 1 late 0
`)
}

// TestQ1AskErrors: the question's error is told ahead of that of the parts; both, behind what the line is.
func TestQ1AskErrors(t *testing.T) {
	deep := "select count(" + strings.Repeat("(", 13) + "a" + strings.Repeat(")", 13) + ") from events window 5"
	cases := []struct {
		line string
		want api.Errno
	}{
		{"ask 1 " + plain, api.OK}, {"ask 2 " + plain, api.OK}, {"ask 3 " + plain, api.OK},
		{"ask 0 " + plain, api.ErrBound}, {"ask 4 " + plain, api.ErrBound}, {"ask 9999 " + plain, api.ErrBound},
		{"ask 10000 " + plain, api.ErrText}, {"ask 01 " + plain, api.ErrText}, {"ask -1 " + plain, api.ErrText}, {"ask +1 " + plain, api.ErrText},
		{"ask  1 " + plain, api.ErrText}, {" ask 1 " + plain, api.ErrText}, {"ask " + plain, api.ErrText}, {"ask 1", api.ErrText}, {"ask 1 ", api.ErrText},
		{"ask null " + plain, api.ErrText}, {"ask true " + plain, api.ErrText}, {"ask 1, " + plain, api.ErrText}, {"ask", api.ErrText}, {"ask ", api.ErrText},
		{"ask 9 select sum(true) from events window 5", api.ErrShape}, {"ask 0 select", api.ErrText}, {"ask 0 " + deep, api.ErrMany}, {"ask 1 " + deep, api.ErrMany},
		{"ask 10000 " + deep, api.ErrText}, {"ask x " + deep, api.ErrText}, {"ask 10000 select sum(true) from events window 5", api.ErrText},
		{"ask 1 select count(*),count(*),count(*),count(*),count(*) from events window 5", api.ErrMany},
		{"ask 1 select count(*) from events window 5 slide 6", api.ErrShape}, {"ask 1 select count(*) from events window 1001", api.ErrText},
		{"ask 1   " + strings.ReplaceAll(plain, " ", "   ") + "  ", api.OK}, {"ask 1 \t" + plain, api.ErrText}, {"ask 1 " + plain + "\n", api.ErrText},
		{"Ask 1 " + plain, api.ErrText}, {"asks 1 " + plain, api.ErrText},
	}
	for _, c := range cases {
		want := wrong(c.want)
		if c.want == api.OK {
			want = "ok"
		}
		if got := begun(t, c.line); got != want {
			t.Errorf("%q: %q, not %q", c.line, got, want)
		}
		if name, _, _ := strings.Cut(c.line, " "); name != "ask" {
			want = wrong(api.ErrState)
		}
		if got := run(t, c.line)[0]; got != want {
			t.Errorf("%q at first: %q, not %q", c.line, got, want)
		}
	}
}

// TestQ1Put: the errors of what is put, and those of the line ahead of them.
func TestQ1Put(t *testing.T) {
	cases := []struct{ line, want string }{
		{"put 0 0 null null null", "ok"}, {"put 1 9999 1000 -1000 0", "ok"},
		{"put 2 0 null null null", "error 5"}, {"put 9999 0 true 1001 false", "error 5"}, {"put 10000 0 null null null", "error 4"},
		{"put 0 10000 null null null", "error 4"}, {"put 0 9999 1001 null null", "error 1"}, {"put 0 0 null -1001 null", "error 1"},
		{"put 0 0 null null 1000000000", "error 1"}, {"put 0 0 null null 1000000001", "error 4"}, {"put 0 0 -1000000001 null null", "error 4"},
		{"put 0 0 true null null", "error 3"}, {"put 0 0 null false 1001", "error 3"}, {"put 0 0 1001 false null", "error 1"}, {"put 0 0 null null true", "error 3"},
		{"put 9 0 null null x", "error 4"}, {"put 0 0 1001 null x", "error 4"}, {"put 0 0 01 null null", "error 4"}, {"put 0 0 -0 null null", "error 4"},
		{"put 0 0 +1 null null", "error 4"}, {"put 0 0 Null null null", "error 4"}, {"put 0 0 nul null null", "error 4"}, {"put 0 00 null null null", "error 4"},
		{"put 0 -1 null null null", "error 4"}, {"put null 0 null null null", "error 4"}, {"put 0 null null null null", "error 4"}, {"put 0 true 1 1 1", "error 4"},
		{"put 0 0 null null", "error 4"}, {"put 0 0 null null null null", "error 4"}, {"put 0 0 null null null ", "error 4"}, {"put 0  0 null null null", "error 4"},
		{"put 0 0 null null  null", "error 4"}, {" put 0 0 null null null", "error 4"}, {"put", "error 4"}, {"put ", "error 4"}, {"put     ", "error 4"},
		{"put 0 0 1.5 null null", "error 4"}, {"put 0 0 null null null\n", "error 4"}, {"put\t0 0 null null null", "error 4"}, {"put 0 0 ١ null null", "error 4"},
	}
	for _, c := range cases {
		if got := begun(t, c.line); got != c.want {
			t.Errorf("%q: %q, not %q", c.line, got, c.want)
		}
		want := "0 null 1 late 0"
		if c.want != "ok" {
			want = "- late 0"
		} else if strings.Contains(c.line, "9999") {
			want = "9995 null 1 late 0"
		}
		if got := begun(t, "answer", c.line); got != want {
			t.Errorf("behind %q: %q, not %q", c.line, got, want)
		}
	}
}

// TestQ1Order: Time, K, A, B stand in that order.
func TestQ1Order(t *testing.T) {
	session(t, `
ask 1 select sum(t), sum(k), sum(a), sum(b) from events window 10 => ok
put 0 1 20 300 -4 => ok
answer => 0 null 1 20 300 -4 late 0
`)
}

// TestQ1Full: a part has room for MaxEvents events.
func TestQ1Full(t *testing.T) {
	lines := []string{"ask 2 " + plain}
	for range api.MaxEvents {
		lines = append(lines, "put 1 7 null null null")
	}
	lines = append(lines, "put 1 7 null null null", "put 1 7 true null null", "put 0 7 null null null", "answer")
	got := run(t, lines...)[1+api.MaxEvents:]
	if want := []string{"error 6", "error 3", "ok", "5 null 41 late 0"}; !slices.Equal(got, want) {
		t.Errorf("%q, not %q", got, want)
	}
}

// TestQ1Step: the errors of a step.
func TestQ1Step(t *testing.T) {
	session(t, `
ask 2 select count(*) from events window 5 => ok
step 0 => error 8
step 2 => error 5
step 9999 => error 5
step 10000 => error 4
step 00 => error 4
step -1 => error 4
step null => error 4
step x => error 4
step => error 4
step 0 0 => error 4
put 1 3 null null null => ok
step 0 => error 8
step 1 => ok
step 1 => error 8
state => 0 1 upto none late 0 kept 1 waiting 0
`)
}

// TestQ1Restart: what wasn't saved is read anew, what was saved counts on; the source stays.
func TestQ1Restart(t *testing.T) {
	for _, line := range []string{"restart 0", "restart 1", "restart 64", "restart 9999"} {
		session(t, strings.ReplaceAll(`
ask 1 select count(*) from events window 5 late 20 => ok
put 0 3 null null null => ok
put 0 12 null null null => ok
put 0 4 null null null => ok
step 0 => ok
step 0 => ok
state => 2 upto 12 late 0 kept 2 waiting 1
RESTART => ok
state => 0 upto none late 0 kept 0 waiting 0
rows => -
step 0 => ok
step 0 => ok
save => ok
RESTART => ok
RESTART => ok
state => 2 upto 12 late 0 kept 2 waiting 0
rows => + 0 null 1
step 0 => ok
state => 3 upto 12 late 0 kept 2 waiting 2
rows => + 0 null 1
save => ok
rows => + 0 null 1; - 0 null 1; + 0 null 2
put 0 13 null null null => ok
RESTART => ok
step 0 => ok
step 0 => error 8
answer => 0 null 2; 10 null 2 late 0
`, "RESTART", line))
	}
	for _, line := range []string{"restart", "restart x", "restart 10000", "restart 0 0", "restart -1", "restart 00", "restart "} {
		if got := begun(t, line); got != "error 4" {
			t.Errorf("%q: %q", line, got)
		}
		lines := []string{"put 0 1 null null null", "step 0", line}
		if got := begun(t, "state", lines...); got != "1 0 upto none late 0 kept 1 waiting 0" {
			t.Errorf("behind %q: %q", line, got)
		}
	}
}

// TestQ2NoLine: lines that are none of them.
func TestQ2NoLine(t *testing.T) {
	lines := []string{"", " ", "  ", "fly", "fly high", "rows 1", "rows ", " rows", "Rows", "rowsrows", "row", "rows\n", "rows\x00", "save 1", "save ", "state 0", "state ",
		"answer 0", "answer ", "question ", "question " + plain, "arm", "arm x", "arm -1", "arm 10000", "arm 0 0", "arm 00", "N", "ok", "error 4", "\xff\xfe", "größer",
		strings.Repeat(" ", 260), strings.Repeat("x", 260), strings.Repeat("rows ", 52)}
	for _, line := range lines {
		if got := begun(t, line); got != "error 4" {
			t.Errorf("%q: %q", line, got)
		}
		if got := run(t, line)[0]; got != "error 8" {
			t.Errorf("%q at first: %q", line, got)
		}
	}
}

// TestQ2None: without a stream each line but ask is answered so, also behind an ask that failed.
func TestQ2None(t *testing.T) {
	lines := []string{"put 0 1 null null null", "put 9 1 true null null", "step 0", "step 9", "save", "rows", "state", "answer", "question", "arm 0", "arm 5", "restart 0",
		"step x", "rows 1", "fly"}
	for _, line := range lines {
		for _, first := range []string{"ask 0 " + plain, "ask 1 select", "ask", line} {
			if got := run(t, first, line)[1]; got != "error 8" {
				t.Errorf("%q behind %q: %q", line, first, got)
			}
		}
		if got := run(t, line, "ask 1 "+plain, "state")[2]; got != "0 upto none late 0 kept 0 waiting 0" {
			t.Errorf("behind %q: %q", line, got)
		}
	}
}

// TestQ2Long: a line of MaxLine bytes is read, a longer one is not, whatever it says, over a stream and without one.
func TestQ2Long(t *testing.T) {
	pad := func(size int) string { return "ask 3 " + plain + strings.Repeat(" ", size-6-len(plain)) }
	cases := []struct{ line, want string }{
		{pad(6 + api.MaxText), "ok"}, {pad(7 + api.MaxText), "error 2"}, {pad(api.MaxLine), "error 2"}, {pad(api.MaxLine + 1), "error 4"}, {pad(100000), "error 4"},
		{"ask 3 " + strings.Repeat("\xff", api.MaxLine-6), "error 2"}, {"ask 3 " + strings.Repeat("\xff", api.MaxLine-5), "error 4"},
		{"ask 3 " + strings.Repeat("ä", 127), "error 2"}, {"ask 3 a" + strings.Repeat("ä", 127), "error 4"},
	}
	for _, c := range cases {
		if got := begun(t, c.line); got != c.want {
			t.Errorf("%d bytes, %.30q: %q, not %q", len(c.line), c.line, got, c.want)
		}
		if got := run(t, c.line)[0]; got != c.want {
			t.Errorf("%d bytes, %.30q at first: %q, not %q", len(c.line), c.line, got, c.want)
		}
	}
	for _, head := range []string{"", "x", "rows ", "step 0", "step ", "put 0 1 null null null", "save", "arm 0", "restart 0", "asks", "\xff", "ä"} {
		longest := head + strings.Repeat(" ", api.MaxLine-len(head))
		if got := run(t, longest)[0]; got != "error 8" {
			t.Errorf("%d bytes, %.30q at first: %q", len(longest), longest, got)
		}
		for _, long := range []string{longest + " ", longest + "0", longest + longest} {
			if got := begun(t, long); got != "error 4" {
				t.Errorf("%d bytes, %.30q: %q", len(long), long, got)
			}
			for _, first := range []string{"rows", "fly", "ask", "ask 0 " + plain, "ask 1 select", long} {
				if got := run(t, first, long, "rows"); got[1] != "error 4" || got[2] != "error 8" {
					t.Errorf("%d bytes, %.30q behind %.30q: %q", len(long), long, first, got)
				}
			}
			if got := run(t, long, "ask 1 "+plain, long, "rows"); !slices.Equal(got, []string{"error 4", "ok", "error 4", "-"}) {
				t.Errorf("%d bytes, %.30q ahead of an ask: %q", len(long), long, got)
			}
		}
	}
}

// TestQ1Many: up to MaxLines lines, however long they are.
func TestQ1Many(t *testing.T) {
	for n := range api.MaxLines + 1 {
		lines := slices.Repeat([]string{"ask 1 " + plain}, n)
		for i, got := range run(t, lines...) {
			if got != "ok" {
				t.Errorf("%d lines: line %d: %q", n, i, got)
			}
		}
	}
	for _, n := range []int{api.MaxLines + 1, api.MaxLines + 2, 100000} {
		for _, line := range []string{"", "ask 1 " + plain, strings.Repeat("x", 300)} {
			if l, err := console.Run(slices.Repeat([]string{line}, n)); len(l) != 0 || err != api.ErrMany {
				t.Errorf("%d lines: %d answers, %v", n, len(l), err)
			}
		}
	}
	if l, err := console.Run(nil); len(l) != 0 || err != nil {
		t.Errorf("no lines: %q, %v", l, err)
	}
}
