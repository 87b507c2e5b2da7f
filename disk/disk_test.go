package disk_test

import (
	"math"
	"strings"
	"testing"

	"penstock/api"
	"penstock/disk"
)

// begin a disk.
func begin(t *testing.T, n int) *disk.Disk {
	t.Helper()
	d, err := disk.New(n)
	if err != nil {
		t.Fatal(err)
	}
	return d
}

// full: a sector's bytes, that are so at its beginning.
func full(s string) string { return s + strings.Repeat("\x00", api.Sector-len(s)) }

// has: is it so that a sector has these bytes?
func has(t *testing.T, d *disk.Disk, at int, want string) {
	t.Helper()
	if got, err := d.Read(at); err != nil || got != full(want) {
		t.Errorf("sector %d: %.20q, %v; it should have %.20q", at, got, err, want)
	}
}

// put bytes into a sector.
func put(t *testing.T, d *disk.Disk, at int, data string) {
	t.Helper()
	if err := d.Write(at, data); err != nil {
		t.Fatalf("sector %d: %v", at, err)
	}
}

func flush(t *testing.T, d *disk.Disk) {
	t.Helper()
	if err := d.Flush(); err != nil {
		t.Fatal(err)
	}
}

func TestM1New(t *testing.T) {
	for _, n := range []int{math.MinInt, -1, 0, api.Sectors + 1, math.MaxInt} {
		if d, err := disk.New(n); d != nil || err != api.ErrBound {
			t.Errorf("New(%d): %v, %v", n, d, err)
		}
	}
	for _, n := range []int{1, 2, 159, api.Sectors} {
		d := begin(t, n)
		if d.Sectors() != n || d.Down() {
			t.Errorf("New(%d): it has %d, is down: %v", n, d.Sectors(), d.Down())
		}
		for at := range n {
			has(t, d, at, "")
		}
	}
}

func TestM1NoSector(t *testing.T) {
	d := begin(t, 3)
	put(t, d, 2, "x")
	for _, at := range []int{math.MinInt, -1, 3, 4, math.MaxInt} {
		if s, err := d.Read(at); s != "" || err != api.ErrBound {
			t.Errorf("Read(%d): %q, %v", at, s, err)
		}
		if err := d.Write(at, "y"); err != api.ErrBound {
			t.Errorf("Write(%d): %v", at, err)
		}
	}
	has(t, d, 0, "")
	has(t, d, 1, "")
	has(t, d, 2, "x")
}

func TestM1Write(t *testing.T) {
	d := begin(t, 2)
	for _, size := range []int{256, 255, 17, 1, 0, 256, 0} {
		data := strings.Repeat("z", size)
		put(t, d, 1, data)
		has(t, d, 1, data)
	}
	put(t, d, 1, "\x00a\xff\x00")
	has(t, d, 1, "\x00a\xff")
	for _, size := range []int{257, 512, 100000} {
		if err := d.Write(1, strings.Repeat("y", size)); err != api.ErrBound {
			t.Errorf("%d bytes: %v", size, err)
		}
	}
	has(t, d, 1, "\x00a\xff")
	has(t, d, 0, "")
}

// TestM2Arm: behind so many steps, of both kinds, it falls; what is only read, or may not be, is no step.
func TestM2Arm(t *testing.T) {
	for n := range 5 {
		d := begin(t, 2)
		put(t, d, 0, "ahead")
		d.Arm(n)
		for k := range n {
			d.Read(0)
			d.Write(2, "")
			d.Write(0, strings.Repeat("y", 257))
			if k%2 == 0 {
				put(t, d, 1, "on")
			} else {
				flush(t, d)
			}
			if d.Down() {
				t.Fatalf("it is down at step %d of %d", k, n)
			}
		}
		if n%2 == 0 && d.Write(1, "off") != api.ErrDown || n%2 == 1 && d.Flush() != api.ErrDown || !d.Down() {
			t.Errorf("it didn't fall behind %d steps", n)
		}
	}
}

func TestM2NotArmed(t *testing.T) {
	d := begin(t, 1)
	for _, n := range []int{-1, -2, math.MinInt} {
		d.Arm(1)
		d.Arm(n)
		for range 300 {
			put(t, d, 0, "a")
			flush(t, d)
		}
	}
	d.Arm(2)
	put(t, d, 0, "b")
	d.Arm(2)
	put(t, d, 0, "c")
	put(t, d, 0, "d")
	if d.Flush() != api.ErrDown {
		t.Error("what is left isn't what was armed last")
	}
	d.Restart(0)
	d.Arm(math.MaxInt)
	flush(t, d)
}

func TestM2Down(t *testing.T) {
	d := begin(t, 2)
	put(t, d, 0, "kept")
	flush(t, d)
	d.Arm(0)
	has(t, d, 0, "kept")
	if d.Down() {
		t.Error("it fell ahead of the step")
	}
	for range 3 {
		if err := d.Write(0, "lost"); err != api.ErrDown || !d.Down() {
			t.Errorf("Write: %v", err)
		}
		if err := d.Flush(); err != api.ErrDown {
			t.Errorf("Flush: %v", err)
		}
		d.Arm(5) // it is down, however many steps are left
		for _, at := range []int{-1, 0, 2} {
			if s, err := d.Read(at); s != "" || err != api.ErrDown {
				t.Errorf("Read(%d): %q, %v", at, s, err)
			}
		}
		if err := d.Write(2, ""); err != api.ErrBound {
			t.Errorf("Write of no sector: %v", err)
		}
		if err := d.Write(0, strings.Repeat("x", 257)); err != api.ErrBound {
			t.Errorf("Write of too much: %v", err)
		}
		d.Arm(-1)
	}
	if d.Sectors() != 2 {
		t.Error("it has other sectors")
	}
	d.Restart(math.MaxUint64)
	has(t, d, 0, "kept")
}

// TestM2Flush: all that was written is kept, however much it is.
func TestM2Flush(t *testing.T) {
	d := begin(t, api.Sectors)
	for at := range api.Sectors {
		put(t, d, at, strings.Repeat("f", at))
	}
	flush(t, d)
	d.Restart(0)
	for at := range api.Sectors {
		has(t, d, at, strings.Repeat("f", at))
	}
}

// TestM2FlushFalls: a Flush that is told to be down keeps nothing.
func TestM2FlushFalls(t *testing.T) {
	d := begin(t, 1)
	put(t, d, 0, "a")
	d.Arm(0)
	if d.Flush() != api.ErrDown {
		t.Fatal("it isn't down")
	}
	d.Restart(0)
	has(t, d, 0, "")
}

func TestM3Restart(t *testing.T) {
	cases := []struct {
		keep uint64
		want [3]string
	}{
		{0, [3]string{"old", "", ""}},
		{1, [3]string{"a", "", ""}},
		{2, [3]string{"old", "b", ""}},
		{4, [3]string{"c", "", ""}},
		{5, [3]string{"c", "", ""}},
		{8, [3]string{"old", "d", ""}},
		{2 | 8, [3]string{"old", "d", ""}},
		{3, [3]string{"a", "b", ""}},
		{16, [3]string{"old", "", "e"}},
		{1 << 5, [3]string{"old", "", ""}},
		{math.MaxUint64, [3]string{"c", "d", "e"}},
		{math.MaxUint64 &^ 4, [3]string{"a", "d", "e"}},
	}
	for _, c := range cases {
		for _, falls := range []bool{false, true} {
			d := begin(t, 3)
			put(t, d, 0, "old")
			flush(t, d)
			for i, at := range []int{0, 1, 0, 1, 2} {
				put(t, d, at, "abcde"[i:i+1])
			}
			d.Arm(7)
			if falls {
				d.Arm(0)
				d.Write(2, "f")
			}
			d.Restart(c.keep)
			if d.Down() {
				t.Error("it is still down")
			}
			for at, want := range c.want {
				has(t, d, at, want)
			}
			for range 20 { // it isn't armed
				flush(t, d)
			}
			d.Restart(0) // what is kept stays
			for at, want := range c.want {
				has(t, d, at, want)
			}
		}
	}
}

// TestM3Numbers: a write's number is counted from the last Flush or Restart on, modulo 64; only what was written counts.
func TestM3Numbers(t *testing.T) {
	d := begin(t, 80)
	put(t, d, 0, "x")
	put(t, d, 0, "y")
	flush(t, d)
	put(t, d, 0, "z")
	d.Restart(0)
	has(t, d, 0, "y")
	d.Write(80, "none")
	d.Write(0, strings.Repeat("x", 257))
	for at := range 80 {
		put(t, d, at, "w")
	}
	d.Restart(1 << 3)
	for at := range 80 {
		switch at {
		case 3, 67:
			has(t, d, at, "w")
		case 0:
			has(t, d, at, "y")
		default:
			has(t, d, at, "")
		}
	}
	for k := range 65 {
		put(t, d, 7, strings.Repeat("v", k))
	}
	d.Restart(1 | 1<<63)
	has(t, d, 7, strings.Repeat("v", 64))
	for k := range 65 {
		put(t, d, 7, strings.Repeat("u", k))
	}
	d.Restart(1<<62 | 1<<63)
	has(t, d, 7, strings.Repeat("u", 63))
}

// TestM3Bounded: what can't be seen any more isn't held, however often a sector is written.
func TestM3Bounded(t *testing.T) {
	d := begin(t, 1)
	writes := func() {
		for range 10000 {
			put(t, d, 0, "again")
		}
	}
	if n := testing.AllocsPerRun(1, writes); n > 0 {
		t.Errorf("writes take more and more memory: %v", n)
	}
}

// TestZ2Apart: disks have nothing in common.
func TestZ2Apart(t *testing.T) {
	a, b := begin(t, 1), begin(t, 1)
	put(t, a, 0, "a")
	a.Arm(0)
	a.Flush()
	has(t, b, 0, "")
	put(t, b, 0, "b")
	flush(t, b)
	a.Restart(1)
	has(t, a, 0, "a")
	has(t, b, 0, "b")
}
