package console_test

import (
	"slices"
	"strconv"
	"strings"
	"testing"

	"penstock/api"
	"penstock/batch"
	"penstock/console"
	"penstock/disk"
	"penstock/query"
	"penstock/save"
	"penstock/source"
	"penstock/stream"
	"penstock/value"
)

// die: numbers that look drawn, the same each time.
type die uint64

func (d *die) n(most int) int {
	*d = *d*6364136223846793005 + 1442695040888963407
	return int(uint64(*d>>33) % uint64(most))
}

func (d *die) word(words ...string) string { return words[d.n(len(words))] }

func (d *die) number(most int) string { return strconv.Itoa(d.n(most)) }

// question that may be.
func (d *die) question() string {
	s := "select " + d.word("count(*)", "count(*), sum(a)", "min(a), max(b), sum(a * b - k)", "count(a < b), sum(a * 600000000)")
	s += " from events " + d.word("", "", "where a > 0 ", "where a is not null ")
	return s + d.word("", "group by k ", "group by a < b ") + "window 10 " + d.word("", "slide 5", "slide 3") + d.word("", " delay 2") + d.word("", " late 5", " late 30", " late 30")
}

// put line: an event of one of two parts, most often later than those ahead.
func (d *die) put(at int) string {
	field := func() string { return d.word("null", "1", "5", "5", "-2", "-1000") }
	return "put " + d.number(2) + " " + strconv.Itoa(max(0, at-d.n(2)*d.n(25))) + " " + field() + " " + field() + " " + field()
}

// machine: the layers themselves, called one by one, without lines.
type machine struct {
	q api.Query
	s *source.Source
	d *disk.Disk
	u *stream.Stream
}

func begin(t *testing.T, question string) *machine {
	t.Helper()
	q, err := query.Parse(question)
	if err != nil {
		t.Fatalf("%q: %v", question, err)
	}
	s, _ := source.New(2)
	d, _ := disk.New(api.Sectors)
	m := &machine{q: q, s: s, d: d}
	if err := save.Format(d); err != nil {
		t.Fatal(err)
	}
	if err := m.open(); err != nil {
		t.Fatal(err)
	}
	return m
}

func (m *machine) open() (err error) {
	m.u, err = stream.Open(m.q, m.s, m.d)
	return err
}

// do what a line of words that are right says.
func (m *machine) do(words []string) string {
	number := func(i int) int {
		n, _ := strconv.Atoi(words[i])
		return n
	}
	var err error
	switch words[0] {
	case "put":
		var l [3]api.Value
		for i := range l {
			l[i], _ = value.Parse(words[3+i])
		}
		err = m.s.Put(number(1), api.Event{Time: number(2), K: l[0], A: l[1], B: l[2]})
	case "step":
		err = m.u.Step(number(1))
	case "save":
		err = m.u.Save()
	case "restart":
		m.d.Restart(uint64(number(1)))
		err = m.open()
	default:
		return m.tell(words[0])
	}
	if err == nil {
		return "ok"
	}
	return strings.TrimPrefix(err.Error(), "penstock: ")
}

// tell what there is.
func (m *machine) tell(what string) string {
	var l []string
	switch what {
	case "rows":
		for _, r := range m.u.Rows() {
			l = append(l, map[bool]string{false: "+ ", true: "- "}[r.Gone]+pane(r.Pane))
		}
		return list(l)
	case "answer":
		panes, late := batch.Answer(m.q, m.s.All())
		for _, p := range panes {
			l = append(l, pane(p))
		}
		return list(l) + " late " + strconv.Itoa(late)
	case "question":
		return query.Text(m.q)
	}
	for _, n := range m.u.Read() {
		l = append(l, strconv.Itoa(n))
	}
	l = append(l, "upto", "none")
	if upto, known := m.u.Upto(); known {
		l[len(l)-1] = strconv.Itoa(upto)
	}
	return strings.Join(append(l, "late", strconv.Itoa(m.u.Late()), "kept", strconv.Itoa(m.u.Kept()), "waiting", strconv.Itoa(m.u.Waiting())), " ")
}

func list(l []string) string {
	if len(l) == 0 {
		return "-"
	}
	return strings.Join(l, "; ")
}

func pane(p api.Pane) string {
	l := []string{strconv.Itoa(p.Start), value.Text(p.Key)}
	for _, v := range p.Vals {
		l = append(l, value.Text(v))
	}
	return strings.Join(l, " ")
}

// TestQ1Drawn: sessions, held against the layers that they call.
func TestQ1Drawn(t *testing.T) {
	d := die(171)
	told := 0
	for range 400 {
		text := d.question()
		lines, want, m := []string{"ask 2 " + text}, []string{"ok"}, begin(t, text)
		at := 0
		for len(lines) < api.MaxLines {
			line := map[int]string{api.MaxLines - 2: "save", api.MaxLines - 1: "rows"}[len(lines)]
			switch k := d.n(12); {
			case line != "":
			case k < 4:
				at += d.n(7)
				line = d.put(at)
			case k < 8:
				line = "step " + d.word("0", "0", "1", "1", "1", "2")
			case k == 8:
				line = d.word("save", "save", "save", "restart 0", "restart 7")
			default:
				line = d.word("rows", "state", "answer", "rows", "question", "put 2 1 1 1 1", "put 1 1 true 1 1", "put 0 1 1 -1001 1")
			}
			lines, want = append(lines, line), append(want, m.do(strings.Split(line, " ")))
		}
		for i, got := range run(t, lines...) {
			if got != want[i] {
				t.Fatalf("%q: line %d, %q: %q, not %q", text, i, lines[i], got, want[i])
			}
			if strings.Contains(got, "; - ") {
				told++
			}
		}
	}
	if told < 20 {
		t.Errorf("only %d times something was gone", told)
	}
}

// junk: a line, or what looks like one.
func (d *die) junk() string {
	s := ""
	switch d.n(8) {
	case 0:
		s = "ask " + d.word("1", "2", "3", "0", "4", "x", "9999") + " " + d.question()
	case 1, 2:
		s = d.put(d.n(40))
	case 3:
		s = d.word("step 0", "step 1", "step 2", "save", "save", "rows", "state", "answer", "question")
	case 4:
		s = d.word("arm ", "restart ") + d.word(d.number(6), d.number(10000))
	case 5:
		s = strings.Repeat(d.word("x", " ", "\x00", "(", "ä", "9", "put ", "ask 1 "), d.n(300))
	default:
		s = d.word("ask", "put", "step", "save", "rows", "arm", "restart", "fly", "") + strings.Repeat(" "+d.word("0", "1", "null", "true", "-1", "x", "", "10000"), d.n(7))
	}
	if len(s) > 0 && d.n(6) == 0 {
		at := d.n(len(s))
		s = s[:at] + d.word("", " ", "(", "9", "x", "\xff", "-") + s[at+d.n(2):]
	}
	return s
}

// answered: does it look like an answer?
func answered(s string) bool {
	n, is := strings.CutPrefix(s, "error ")
	if is {
		k, err := strconv.Atoi(n)
		return err == nil && 1 <= k && k <= 8
	}
	return s == "ok" || s == "-" || strings.HasPrefix(s, "select ") || strings.HasPrefix(s, "+ ") || strings.Contains(s, " late ")
}

// TestZ1: whatever the lines are, also once it is armed, each is answered; and Z2: in the same way each time.
func TestZ1(t *testing.T) {
	d := die(172)
	errors := map[string]int{}
	for range 1500 {
		var lines []string
		if d.n(4) > 0 {
			lines = append(lines, "ask 2 "+d.question())
		}
		for range d.n(api.MaxLines - len(lines) + 1) {
			lines = append(lines, d.junk())
		}
		l := run(t, lines...)
		for i, s := range l {
			if !answered(s) {
				t.Fatalf("%q: %q", lines[i], s)
			}
			if strings.HasPrefix(s, "error ") {
				errors[s]++
			}
		}
		if again := run(t, lines...); !slices.Equal(l, again) {
			t.Fatalf("%q: %q, then %q", lines, l, again)
		}
	}
	for _, n := range []api.Errno{api.ErrBound, api.ErrShape, api.ErrText, api.ErrNone, api.ErrDown, api.ErrState} {
		if errors[wrong(n)] == 0 {
			t.Errorf("never %s: %v", wrong(n), errors)
		}
	}
}

// TestZ2: the lines are as they were, those behind them are not read, and the answers are the caller's.
func TestZ2(t *testing.T) {
	all := []string{"ask 1 " + plain, "put 0 3 null null null", "answer", "state", "fly", "save"}
	was := slices.Clone(all)
	lines := all[:4]
	l := run(t, lines...)
	want := slices.Clone(l)
	if !slices.Equal(all, was) {
		t.Errorf("%q", all)
	}
	wide := l[:cap(l)]
	for i := range wide {
		wide[i] = "mine"
	}
	if again := run(t, lines...); !slices.Equal(again, want) || !slices.Equal(all, was) {
		t.Errorf("%q, not %q", again, want)
	}
	for i := range all {
		all[i] = ""
	}
	if wide[0] != "mine" {
		t.Errorf("%q", wide)
	}
	if got := run(t, "state")[0]; got != "error 8" {
		t.Errorf("a session goes on in the next one: %q", got)
	}
}

// TestZ3: the error is a bare number of package api, ahead of all that is wrong in the lines.
func TestZ3(t *testing.T) {
	_, err := console.Run(slices.Repeat([]string{strings.Repeat("x", 300)}, api.MaxLines+1))
	if n, is := err.(api.Errno); !is || n != 2 {
		t.Errorf("%v", err)
	}
}

// TestFalls: W4, line by line: behind falls at each step of a save, whatever is kept, once all is read and saved anew, the
// same counts as without any.
func TestFalls(t *testing.T) {
	ahead := []string{"ask 1 select count(*), sum(a) from events group by k window 10 slide 5 late 5", "put 0 3 1 5 null", "put 0 12 2 6 null", "put 0 8 1 7 null",
		"put 0 30 1 8 null", "step 0", "step 0", "save", "step 0"}
	behind := []string{"state", "step 0", "step 0", "step 0", "step 0", "save", "rows", "state", "answer"}
	last := len(behind) - 3
	plainly := run(t, slices.Concat(ahead, behind)...)
	want := plainly[len(plainly)-3:]
	if !strings.Contains(want[0], "; - ") {
		t.Fatalf("nothing is gone: %q", want)
	}
	fell, kept := 0, 0
	for steps := range 8 {
		states := map[string]int{} // as the stream is opened anew
		for _, keep := range []string{"0", "1", "2", "3", "9999"} {
			l := run(t, slices.Concat(ahead, []string{"arm " + strconv.Itoa(steps), "save", "save", "restart " + keep}, behind)...)
			if l[len(ahead)+1] == "error 7" {
				fell++
				if got := l[len(ahead)+2]; got != "error 7" {
					t.Errorf("it is down, and saves: %q", got)
				}
			}
			if l[len(ahead)+3] != "ok" {
				t.Errorf("restart: %q", l[len(ahead)+3])
			}
			got := l[len(ahead)+4:]
			states[got[0]]++
			if !slices.Equal(got[last:], want) {
				t.Errorf("behind %d steps, kept %s: %q, not %q", steps, keep, got[last:], want)
			}
		}
		if len(states) > 1 {
			kept++
		}
	}
	if fell == 0 || kept == 0 {
		t.Errorf("it fell %d times, and %d times it hung on what was kept", fell, kept)
	}
}
