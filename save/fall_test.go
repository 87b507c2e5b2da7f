package save_test

import (
	"math"
	"testing"

	"penstock/api"
	"penstock/disk"
	"penstock/save"
)

// die: numbers that look drawn, the same each time.
type die uint64

func (d *die) n(most int) int {
	*d = *d*6364136223846793005 + 1442695040888963407
	return int(uint64(*d>>33) % uint64(most))
}

func (d *die) mask() uint64 {
	return uint64(d.n(1<<31))<<40 ^ uint64(d.n(1<<31))<<20 ^ uint64(d.n(1<<31))
}

// masks: none, all, some that are drawn; then each bit alone, and all but one.
func masks() []uint64 {
	d := die(151)
	l := []uint64{0, math.MaxUint64}
	for range few - len(l) {
		l = append(l, d.mask())
	}
	for bit := range 64 {
		l = append(l, 1<<bit, math.MaxUint64&^(1<<bit))
	}
	return l
}

// few masks, where there are many steps.
const few = 8

// eachFall of a call on a disk that is made anew for it, and each mask, is shown: at each step that the call takes, until
// it doesn't fall any more.
func eachFall(t *testing.T, l []uint64, make func() *disk.Disk, call func(d *disk.Disk) error, show func(d *disk.Disk)) {
	t.Helper()
	for steps := 0; ; steps++ {
		for _, keep := range l {
			d := make()
			d.Arm(steps)
			err := call(d)
			if err == nil && !d.Down() {
				return
			}
			if err != api.ErrDown || !d.Down() {
				t.Fatalf("a fall behind %d steps: %v, down: %v", steps, err, d.Down())
			}
			d.Restart(keep)
			show(d)
		}
	}
}

// oneOf two texts it is: is it the second one?
func oneOf(t *testing.T, d *disk.Disk, old, next string) bool {
	t.Helper()
	got, err := save.Read(d)
	if err != nil || got != old && got != next {
		t.Fatalf("%.30q (%d bytes), %v; it should be %.30q (%d) or %.30q (%d)", got, len(got), err, old, len(old), next, len(next))
	}
	has(t, d, got)
	return got == next
}

// TestO3Write: a fall at any step of a Write, whatever is kept: the text is the old one or the new one, and goes on to be
// written to.
func TestO3Write(t *testing.T) {
	sizes := []struct{ n, old, next int }{{4, 0, 256}, {4, 256, 0}, {5, 256, 255}, {6, 300, 512}, {12, 1280, 1279}, {12, 5, 1100}, {150, 17000, 18900}}
	for _, c := range sizes {
		l := masks()
		if c.n > 64 {
			l = l[:few]
		}
		for _, before := range []int{0, 1, 2} { // texts ahead, so that it is at one place or another
			old, next, seen := text(c.old, 1), text(c.next, 2), [2]int{}
			made := func() *disk.Disk {
				d := format(t, c.n)
				for range before {
					put(t, d, text(room(c.n), 7))
				}
				put(t, d, old)
				return d
			}
			eachFall(t, l, made, func(d *disk.Disk) error { return save.Write(d, next) }, func(d *disk.Disk) {
				if oneOf(t, d, old, next) {
					seen[1]++
				} else {
					seen[0]++
				}
				put(t, d, text(room(c.n), 3))
				has(t, d, text(room(c.n), 3))
			})
			if seen[0] == 0 || seen[1] == 0 {
				t.Errorf("%d sectors: the old one is there %d times, the new one %d times", c.n, seen[0], seen[1])
			}
		}
	}
}

// TestO3Format: a fall at any step of a Format: the text is the old one, or has no bytes; a disk that wasn't formatted is
// formatted, or not.
func TestO3Format(t *testing.T) {
	for _, old := range []string{"", "a", text(512, 1)} {
		made := func() *disk.Disk {
			d := format(t, 6)
			put(t, d, old)
			return d
		}
		eachFall(t, masks(), made, save.Format, func(d *disk.Disk) { oneOf(t, d, old, "") })
	}
	eachFall(t, masks(), func() *disk.Disk { return begin(t, 6) }, save.Format, func(d *disk.Disk) {
		if s, err := save.Read(d); s != "" || err != nil && err != api.ErrText {
			t.Fatalf("%q, %v", s, err)
		}
		if err := save.Format(d); err != nil {
			t.Fatal(err)
		}
		has(t, d, "")
	})
}

// TestO3Drawn: falls one behind the other.
func TestO3Drawn(t *testing.T) {
	die := die(152)
	for range 200 {
		n := 4 + die.n(8)
		d, last := format(t, n), ""
		for range 60 {
			d.Arm(die.n(12) - 2)
			next := text(die.n(room(n)+2), die.n(256))
			switch err := save.Write(d, next); {
			case err == nil:
				last = next
			case err == api.ErrFull && len(next) > room(n):
			case err == api.ErrDown:
				d.Restart(die.mask())
				if oneOf(t, d, last, next) {
					last = next
				}
			default:
				t.Fatal(err)
			}
			if got, err := save.Read(d); err != nil || got != last {
				t.Fatalf("%d bytes, %v; there should be %d", len(got), err, len(last))
			}
		}
	}
}
