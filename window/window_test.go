package window_test

import (
	"math"
	"slices"
	"testing"

	"penstock/window"
)

func TestF1Starts(t *testing.T) {
	for _, c := range []struct {
		at, size, slide int
		want            []int
	}{
		// One window a time.
		{0, 1, 1, []int{0}},
		{9999, 1, 1, []int{9999}},
		{0, 10, 10, []int{0}},
		{9, 10, 10, []int{0}},
		{10, 10, 10, []int{10}},
		{11, 10, 10, []int{10}},
		{999, 1000, 1000, []int{0}},
		{1000, 1000, 1000, []int{1000}},
		{9999, 1000, 1000, []int{9000}},
		// Windows that begin below 0.
		{0, 10, 5, []int{-5, 0}},
		{3, 10, 5, []int{-5, 0}},
		{4, 10, 5, []int{-5, 0}},
		{5, 10, 5, []int{0, 5}},
		{0, 4, 1, []int{-3, -2, -1, 0}},
		{0, 1000, 250, []int{-750, -500, -250, 0}},
		{249, 1000, 250, []int{-750, -500, -250, 0}},
		{250, 1000, 250, []int{-500, -250, 0, 250}},
		// A window's last time is one below its end.
		{14, 10, 5, []int{5, 10}},
		{15, 10, 5, []int{10, 15}},
		{9999, 4, 1, []int{9996, 9997, 9998, 9999}},
		// A size that is no multiple of the slide: one window more or less.
		{0, 7, 5, []int{-5, 0}},
		{1, 7, 5, []int{-5, 0}},
		{2, 7, 5, []int{0}},
		{4, 7, 5, []int{0}},
		{5, 7, 5, []int{0, 5}},
		{6, 7, 5, []int{0, 5}},
		{7, 7, 5, []int{5}},
		{0, 6, 5, []int{-5, 0}},
		{1, 6, 5, []int{0}},
		{999, 1000, 999, []int{0, 999}},
		{9999, 1000, 250, []int{9000, 9250, 9500, 9750}},
		{9999, 1000, 333, []int{9324, 9657, 9990}},
	} {
		if l := window.Starts(c.at, c.size, c.slide); !slices.Equal(l, c.want) {
			t.Errorf("Starts(%d, %d, %d) = %v, %v is wanted", c.at, c.size, c.slide, l, c.want)
		}
	}
}

// tried: where the windows that a time is in begin, each number around it tried.
func tried(at, size, slide int) []int {
	var l []int
	for start := at - size - slide; start <= at+slide; start++ {
		if start%slide == 0 && start <= at && at < start+size {
			l = append(l, start)
		}
	}
	return l
}

// TestF1Tried: all small windows at all small times, and great ones at some.
func TestF1Tried(t *testing.T) {
	hold := func(at, size, slide int) {
		if l, want := window.Starts(at, size, slide), tried(at, size, slide); !slices.Equal(l, want) {
			t.Fatalf("Starts(%d, %d, %d) = %v, %v is wanted", at, size, slide, l, want)
		}
	}
	for slide := 1; slide <= 9; slide++ {
		for size := slide; size <= 4*slide; size++ {
			for at := range 80 {
				hold(at, size, slide)
			}
		}
	}
	for _, slide := range []int{250, 251, 333, 500, 501, 999, 1000} {
		for size := slide; size <= min(1000, 4*slide); size += 83 {
			for at := 0; at <= 9999; at += 101 {
				hold(at, size, slide)
			}
		}
	}
}

// TestF1Own: what comes out is the caller's.
func TestF1Own(t *testing.T) {
	l := window.Starts(3, 10, 5)
	l = l[:cap(l)]
	for i := range l {
		l[i] = 77
	}
	if m := window.Starts(3, 10, 5); !slices.Equal(m, []int{-5, 0}) {
		t.Errorf("Starts(3, 10, 5) = %v, once what it answered was written into", m)
	}
}

// TestZ1: no numbers make it panic, or go on for ever; where there may be no such windows, none are told.
func TestZ1(t *testing.T) {
	wild := []int{math.MinInt, math.MinInt + 1, math.MinInt32, -10000, -1, 0, 1, 2, 3, 4, 5, 999, 1000, 1001, 4000, 9999, 10000, math.MaxInt32, math.MaxInt - 1, math.MaxInt}
	for _, at := range wild {
		for _, size := range wild {
			for _, slide := range wild {
				l := window.Starts(at, size, slide)
				may := 0 <= at && at <= 9999 && 1 <= size && size <= 1000 && 1 <= slide && slide <= size && size <= 4*slide
				if may != (len(l) > 0) || len(l) > 4 {
					t.Errorf("Starts(%d, %d, %d) = %v", at, size, slide, l)
				}
			}
		}
	}
}
