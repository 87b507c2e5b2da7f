package disk_test

import (
	"math"
	"strings"
	"testing"

	"penstock/api"
	"penstock/disk"
)

// die: numbers that look drawn, the same each time.
type die uint64

func (d *die) n(most int) int {
	*d = *d*6364136223846793005 + 1442695040888963407
	return int(uint64(*d>>33) % uint64(most))
}

func (d *die) mask() uint64 {
	return []uint64{0, math.MaxUint64, uint64(d.n(1<<31))<<40 ^ uint64(d.n(1<<31))<<20 ^ uint64(d.n(1<<31))}[d.n(3)]
}

type written struct {
	at   int
	data string
}

// plain disk: it holds all that was ever written since the last flush.
type plain struct {
	kept  []string
	since []written
	steps int
	down  bool
}

func (p *plain) now(keep uint64) []string {
	l := append([]string{}, p.kept...)
	for i, w := range p.since {
		if keep&(1<<(i%64)) != 0 {
			l[w.at] = full(w.data)
		}
	}
	return l
}

func (p *plain) settle(keep uint64) { p.kept, p.since = p.now(keep), nil }

func (p *plain) step() error {
	if p.down || p.steps == 0 {
		p.down = true
		return api.ErrDown
	}
	p.steps--
	return nil
}

func (p *plain) write(at int, data string) error {
	if at < 0 || at >= len(p.kept) || len(data) > 256 {
		return api.ErrBound
	}
	err := p.step()
	if err == nil {
		p.since = append(p.since, written{at, data})
	}
	return err
}

func (p *plain) flush() error {
	err := p.step()
	if err == nil {
		p.settle(math.MaxUint64)
	}
	return err
}

func (p *plain) read(at int) (string, error) {
	switch {
	case p.down:
		return "", api.ErrDown
	case at < 0 || at >= len(p.kept):
		return "", api.ErrBound
	}
	return p.now(math.MaxUint64)[at], nil
}

// one call that is drawn, of both: what they answer.
func one(d *die, x *disk.Disk, p *plain) (got, want error) {
	at := d.n(len(p.kept)+2) - 1
	switch k := d.n(40); {
	case k < 32:
		data := strings.Repeat(string(rune('a'+d.n(26))), []int{0, 1, 100, 256, 257}[d.n(5)])
		return x.Write(at, data), p.write(at, data)
	case k < 33:
		return x.Flush(), p.flush()
	case k < 34:
		n := d.n(120) - 20
		x.Arm(n)
		if p.steps = n; n < 0 {
			p.steps = math.MaxInt
		}
	case k < 35:
		keep := d.mask()
		x.Restart(keep)
		p.settle(keep)
		p.down, p.steps = false, math.MaxInt
	}
	return nil, nil
}

// TestDrawn: M1 to M3, held against a disk that forgets nothing.
func TestDrawn(t *testing.T) {
	d := die(131)
	for range 300 {
		n := 1 + d.n(4)
		x, p := begin(t, n), &plain{steps: math.MaxInt}
		for range n {
			p.kept = append(p.kept, full(""))
		}
		for range 400 {
			if got, want := one(&d, x, p); got != want {
				t.Fatalf("%v, not %v", got, want)
			}
			at := d.n(n+2) - 1
			got, err := x.Read(at)
			want, wantErr := p.read(at)
			if got != want || err != wantErr || x.Down() != p.down {
				t.Fatalf("sector %d of %d: %.9q, %v, down %v; not %.9q, %v, %v", at, n, got, err, x.Down(), want, wantErr, p.down)
			}
		}
	}
}
