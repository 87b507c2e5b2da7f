package clock_test

import (
	"math"
	"slices"
	"testing"

	"penstock/api"
	"penstock/clock"
)

func made(t *testing.T, parts int) clock.Clock {
	t.Helper()
	c, err := clock.New(parts)
	if err != nil {
		t.Fatalf("New(%d): %v", parts, err)
	}
	return c
}

func wantGreatest(t *testing.T, c clock.Clock, want ...int) {
	t.Helper()
	if !slices.Equal(c.Greatest, want) {
		t.Errorf("the clock has %v, %v is wanted", c.Greatest, want)
	}
}

func wantPart(t *testing.T, c clock.Clock, part, delay, want int, wantIs bool) {
	t.Helper()
	if upto, is := c.Part(part, delay); upto != want || is != wantIs {
		t.Errorf("%v: Part(%d, %d) = %d, %v, wanted are %d, %v", c.Greatest, part, delay, upto, is, want, wantIs)
	}
}

func wantAll(t *testing.T, c clock.Clock, delay, want int, wantIs bool) {
	t.Helper()
	if upto, is := c.All(delay); upto != want || is != wantIs {
		t.Errorf("%v: All(%d) = %d, %v, wanted are %d, %v", c.Greatest, delay, upto, is, want, wantIs)
	}
}

func TestG1New(t *testing.T) {
	for parts := 1; parts <= 3; parts++ {
		wantGreatest(t, made(t, parts), []int{-1, -1, -1}[:parts]...)
	}
	for _, parts := range []int{0, -1, 4, 5, 1000, math.MaxInt, math.MinInt} {
		if c, err := clock.New(parts); err != api.ErrBound || c.Greatest != nil {
			t.Errorf("New(%d) = %v, %v, ErrBound is wanted", parts, c, err)
		}
	}
}

func TestG1See(t *testing.T) {
	c := made(t, 3)
	one := c.See(1, 7)
	wantGreatest(t, one, -1, 7, -1)
	wantGreatest(t, c, -1, -1, -1)
	wantGreatest(t, one.See(1, 6), -1, 7, -1)
	wantGreatest(t, one.See(1, 7), -1, 7, -1)
	wantGreatest(t, one.See(1, 8), -1, 8, -1)
	wantGreatest(t, one.See(0, 0), 0, 7, -1)
	wantGreatest(t, one.See(2, 9999), -1, 7, 9999)
	wantGreatest(t, one.See(2, 9999).See(0, 3).See(2, 1), 3, 7, 9999)
	wantGreatest(t, one, -1, 7, -1)
	wantGreatest(t, made(t, 1).See(0, 0), 0)
}

// TestG1Orders: of some times of two parts, in each order, the greatest of each is kept, step by step.
func TestG1Orders(t *testing.T) {
	times := []int{0, 4, 2, 9999}
	for n := range 4 * 4 * 4 * 8 {
		c, want := made(t, 2), []int{-1, -1}
		for step := range 3 {
			part, at := n>>(6+step)&1, times[n>>(2*step)&3]
			c = c.See(part, at)
			want[part] = max(want[part], at)
			wantGreatest(t, c, want...)
		}
	}
}

func TestG2Part(t *testing.T) {
	c := made(t, 3)
	for part := range 3 {
		wantPart(t, c, part, 0, 0, false)
		wantPart(t, c, part, 5, 0, false)
	}
	c = c.See(1, 20).See(2, 0)
	wantPart(t, c, 0, 0, 0, false)
	wantPart(t, c, 1, 0, 20, true)
	wantPart(t, c, 1, 5, 15, true)
	wantPart(t, c, 1, 20, 0, true)
	wantPart(t, c, 1, 21, -1, true)
	wantPart(t, c, 1, 1000, -980, true)
	wantPart(t, c, 2, 0, 0, true)
	wantPart(t, c, 2, 3, -3, true)
	wantPart(t, c.See(1, 9999), 1, 1000, 8999, true)
	for _, part := range []int{-1, 3, 4, math.MaxInt, math.MinInt} {
		wantPart(t, c, part, 1, 0, false)
	}
}

func TestG2All(t *testing.T) {
	one := made(t, 1)
	wantAll(t, one, 0, 0, false)
	wantAll(t, one.See(0, 0), 0, 0, true)
	wantAll(t, one.See(0, 12), 5, 7, true)
	wantAll(t, one.See(0, 3), 5, -2, true)

	c := made(t, 3)
	wantAll(t, c, 0, 0, false)
	// Of one part nothing was seen, whichever it is.
	for part := range 3 {
		wantAll(t, c.See((part+1)%3, 5).See((part+2)%3, 9), 2, 0, false)
		wantAll(t, c.See(part, 5), 2, 0, false)
	}
	// The least of them, wherever it stands.
	for _, times := range [][3]int{{4, 9, 7}, {9, 4, 7}, {9, 7, 4}, {4, 4, 9}, {4, 9, 4}, {9, 4, 4}, {4, 4, 4}} {
		seen := c.See(0, times[0]).See(1, times[1]).See(2, times[2])
		wantAll(t, seen, 0, 4, true)
		wantAll(t, seen, 4, 0, true)
		wantAll(t, seen, 6, -2, true)
	}
	wantAll(t, c.See(0, 0).See(1, 0).See(2, 9999), 0, 0, true)
	wantAll(t, c.See(0, 9999).See(1, 9999).See(2, 9999), 1000, 8999, true)
}

// TestZ1: neither parts that there aren't, nor any numbers, make it panic; a part that there isn't is seen nowhere.
func TestZ1(t *testing.T) {
	wild := []int{math.MinInt, -10000, -2, -1, 0, 1, 2, 3, 9999, 10000, math.MaxInt}
	for _, part := range wild {
		for _, n := range wild {
			c := made(t, 2).See(0, 5)
			next := c.See(part, n)
			if part != 0 && part != 1 {
				wantGreatest(t, next, 5, -1)
			}
			next.Part(part, n)
			next.All(n)
			wantGreatest(t, c, 5, -1)
		}
	}
	// A time below 0 is none: the part has what it had.
	wantGreatest(t, made(t, 1).See(0, -5), -1)
	wantPart(t, made(t, 1).See(0, -5), 0, 0, 0, false)
}

// TestZ2: a clock is as it was, whatever is done with those that came of it.
func TestZ2(t *testing.T) {
	c := made(t, 2).See(0, 5)
	for part := range 3 {
		next := c.See(part, 1)
		next.Greatest[0], next.Greatest[1] = 70, 70
		wantGreatest(t, c, 5, -1)
	}
	// A list with other numbers behind it in memory: these are neither read nor written over.
	l := []int{3, 4, -1, 99}
	short := clock.Clock{Greatest: l[:2]}
	wantGreatest(t, short.See(2, 50), 3, 4)
	wantGreatest(t, short.See(1, 50), 3, 50)
	wantPart(t, short, 3, 0, 0, false)
	wantAll(t, short, 0, 3, true)
	if !slices.Equal(l, []int{3, 4, -1, 99}) {
		t.Errorf("what stands behind a list is %v now", l)
	}
}
