package save_test

import (
	"math"
	"strconv"
	"strings"
	"testing"

	"penstock/api"
	"penstock/disk"
	"penstock/save"
)

// begin a disk that isn't formatted.
func begin(t *testing.T, n int) *disk.Disk {
	t.Helper()
	d, err := disk.New(n)
	if err != nil {
		t.Fatal(err)
	}
	return d
}

// format a new disk.
func format(t *testing.T, n int) *disk.Disk {
	t.Helper()
	d := begin(t, n)
	if err := save.Format(d); err != nil {
		t.Fatalf("%d sectors: %v", n, err)
	}
	return d
}

// put a text on a disk.
func put(t *testing.T, d *disk.Disk, s string) {
	t.Helper()
	if err := save.Write(d, s); err != nil {
		t.Fatalf("%d sectors, %d bytes: %v", d.Sectors(), len(s), err)
	}
}

// has: is that the text, and still so if all that may be lost is?
func has(t *testing.T, d *disk.Disk, want string) {
	t.Helper()
	for range 2 {
		if got, err := save.Read(d); err != nil || got != want {
			t.Fatalf("%d sectors: %.30q (%d bytes), %v; it should be %.30q (%d bytes)", d.Sectors(), got, len(got), err, want, len(want))
		}
		d.Restart(0)
	}
}

// fall at the next step.
func fall(t *testing.T, d *disk.Disk) {
	t.Helper()
	d.Arm(0)
	if d.Flush() != api.ErrDown {
		t.Fatal("it isn't down")
	}
}

// text of so many bytes, of all kinds.
func text(size, kind int) string {
	b := make([]byte, size)
	for i := range b {
		b[i] = byte(i*7 + i/256 + kind)
	}
	return string(b)
}

// room in bytes.
func room(n int) int { return (n - 2) / 2 * api.Sector }

func TestO1Format(t *testing.T) {
	for n := 1; n <= 3; n++ {
		d := begin(t, n)
		if err := save.Format(d); err != api.ErrFull {
			t.Errorf("%d sectors: %v", n, err)
		}
		fall(t, d)
		if err := save.Format(d); err != api.ErrFull {
			t.Errorf("%d sectors, down: %v", n, err)
		}
	}
	for _, n := range []int{4, 5, 6, 159, api.Sectors} {
		has(t, format(t, n), "")
	}
}

// TestO1Whatever: a disk is formatted whatever is on it: bytes of others, or a text.
func TestO1Whatever(t *testing.T) {
	for _, data := range []string{strings.Repeat("x", 256), "penstock", "penstock 0 256", "\xff"} {
		for _, flushed := range []bool{false, true} {
			d := begin(t, 6)
			for at := range 6 {
				d.Write(at, data)
			}
			if flushed {
				d.Flush()
			}
			if err := save.Format(d); err != nil {
				t.Fatal(err)
			}
			has(t, d, "")
			put(t, d, text(room(6), 1))
			has(t, d, text(room(6), 1))
			if err := save.Format(d); err != nil {
				t.Fatal(err)
			}
			has(t, d, "")
			put(t, d, "a")
			put(t, d, "b")
			if err := save.Format(d); err != nil {
				t.Fatal(err)
			}
			has(t, d, "")
		}
	}
}

// TestNotFormatted: O1, O2: what isn't formatted is no text, whatever was on it.
func TestNotFormatted(t *testing.T) {
	first := []string{"", "x", "0", "5", "penstock", "penstock ", "penstock 0", "penstock 0 ", "penstock 0 x", "penstock 2 5", "penstock 0 -1", "penstock 0 5x",
		"penstock 0 1281", "penstock 1 1281", "penstock 0 9223372036854775807", "penstock 0 99999999999999999999", " penstock 0 5", "penstock 0 5 5",
		strings.Repeat("\xff", 256)}
	for _, n := range []int{1, 2, 3, 4, 12} {
		for _, s := range first {
			d := begin(t, n)
			d.Write(0, s)
			if got, err := save.Read(d); got != "" || err != api.ErrText {
				t.Errorf("%d sectors, %.30q: Read: %q, %v", n, s, got, err)
			}
			for _, size := range []int{0, 1, 100000} {
				if err := save.Write(d, text(size, 0)); err != api.ErrText {
					t.Errorf("%d sectors, %.30q: Write of %d: %v", n, s, size, err)
				}
			}
			if got, err := d.Read(0); err != nil || strings.TrimRight(got, "\x00") != s {
				t.Errorf("%d sectors, %.30q: it was written to: %.30q", n, s, got)
			}
		}
	}
}

// TestDown: O1, O2: that it is down is told ahead of what else is wrong.
func TestDown(t *testing.T) {
	for _, formatted := range []bool{false, true} {
		d := begin(t, 4)
		if formatted {
			save.Format(d)
			put(t, d, "text")
		}
		fall(t, d)
		for range 2 {
			if s, err := save.Read(d); s != "" || err != api.ErrDown {
				t.Errorf("Read: %q, %v", s, err)
			}
			for _, size := range []int{0, 1, 100000} {
				if err := save.Write(d, text(size, 0)); err != api.ErrDown {
					t.Errorf("Write of %d: %v", size, err)
				}
			}
			if err := save.Format(d); err != api.ErrDown {
				t.Errorf("Format: %v", err)
			}
		}
		d.Restart(math.MaxUint64)
		if formatted {
			has(t, d, "text")
		}
	}
}

func TestO2Room(t *testing.T) {
	for n := 4; n <= api.Sectors; n++ {
		d := format(t, n)
		for round := range 3 {
			for _, size := range []int{room(n), 0, room(n) - 1, 1, room(n)} {
				put(t, d, text(size, round))
				has(t, d, text(size, round))
			}
			for _, size := range []int{room(n) + 1, room(n) + 256, 2 * room(n), 100000} {
				if err := save.Write(d, text(size, 9)); err != api.ErrFull {
					t.Fatalf("%d sectors, %d bytes: %v", n, size, err)
				}
				has(t, d, text(room(n), round))
			}
		}
	}
}

// TestO2Texts: of all sizes, and of bytes that look like others.
func TestO2Texts(t *testing.T) {
	d := format(t, 10)
	for size := range room(10) + 1 {
		put(t, d, text(size, size))
		if got, err := save.Read(d); err != nil || got != text(size, size) {
			t.Fatalf("%d bytes: %d, %v", size, len(got), err)
		}
	}
	texts := []string{"\x00", "\x00\x00a\x00", strings.Repeat("\x00", 256), strings.Repeat("\x00", 1000), "a" + strings.Repeat("\x00", 255), "penstock 0 5",
		"\xff\xfe", "ein Wehr, zwölf Schützen", strings.Repeat("z", 256) + "penstock 1 3"}
	for _, s := range texts {
		put(t, d, s)
		has(t, d, s)
	}
}

// TestO2Again: the same text, and one behind the other, on any of them the last one is there.
func TestO2Again(t *testing.T) {
	a, b := format(t, 7), format(t, 7)
	for i := range 50 {
		put(t, a, strconv.Itoa(i))
		put(t, b, strings.Repeat("b", i))
		put(t, b, strings.Repeat("b", i))
		has(t, a, strconv.Itoa(i))
		has(t, b, strings.Repeat("b", i))
	}
}
