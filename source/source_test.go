package source_test

import (
	"math"
	"reflect"
	"testing"

	"penstock/api"
	"penstock/source"
)

var null = api.Value{}

func num(n int) api.Value { return api.Value{Kind: 1, N: n} }

// event with a time that tells it from others.
func event(at int) api.Event {
	return api.Event{Time: at, K: num(at % 7), A: num(-at % 11), B: null}
}

func made(t *testing.T, parts int) *source.Source {
	t.Helper()
	s, err := source.New(parts)
	if err != nil || s == nil {
		t.Fatalf("New(%d): %v", parts, err)
	}
	return s
}

// filled source: so many events of each part.
func filled(t *testing.T, many ...int) *source.Source {
	t.Helper()
	s := made(t, len(many))
	for part, n := range many {
		for i := range n {
			wantPut(t, s, part, event(100*part+i), nil)
		}
	}
	return s
}

func wantPut(t *testing.T, s *source.Source, part int, e api.Event, want error) {
	t.Helper()
	if err := s.Put(part, e); err != want {
		t.Errorf("Put(%d, %v) = %v, %v is wanted", part, e, err, want)
	}
}

// wantAll: so many of each part, as filled laid them.
func wantAll(t *testing.T, s *source.Source, many ...int) {
	t.Helper()
	all := s.All()
	if len(all) != len(many) || s.Parts() != len(many) {
		t.Fatalf("%d parts, %d of them told, %d are wanted", s.Parts(), len(all), len(many))
	}
	for part, n := range many {
		if len(all[part]) != n {
			t.Fatalf("part %d has %d events, %d are wanted", part, len(all[part]), n)
		}
		for i := range n {
			e, is := s.Get(part, i)
			if want := event(100*part + i); all[part][i] != want || e != want || !is {
				t.Errorf("event %d of part %d: %v, Get: %v, %v; %v is wanted", i, part, all[part][i], e, is, want)
			}
		}
		if e, is := s.Get(part, n); is || e != (api.Event{}) {
			t.Errorf("Get(%d, %d) = %v, %v: there is none", part, n, e, is)
		}
	}
}

func TestI1Times(t *testing.T) {
	for _, at := range []int{0, 1, 500, 9998, 9999} {
		if err := source.Check(api.Event{Time: at}); err != nil {
			t.Errorf("time %d: %v", at, err)
		}
	}
	for _, at := range []int{-1, 10000, -9999, math.MinInt, math.MaxInt} {
		if err := source.Check(api.Event{Time: at}); err != api.ErrBound {
			t.Errorf("time %d: %v, ErrBound is wanted", at, err)
		}
	}
}

// fields: what one of an event's may have, and what is wrong with it.
func fields() map[api.Value]error {
	m := map[api.Value]error{}
	for _, v := range []api.Value{null, num(0), num(1), num(-1), num(1000), num(-1000), num(999)} {
		m[v] = nil
	}
	for _, v := range []api.Value{num(1001), num(-1001), num(1000000000), num(-1000000000)} {
		m[v] = api.ErrBound
	}
	for _, v := range []api.Value{{Kind: 2}, {Kind: 2, N: 1}, {Kind: 2, N: 2}, {Kind: 2, N: 2000}, {N: 1}, {N: -1}, {N: 5000}, {Kind: 3}, {Kind: -1}, {Kind: math.MaxInt}, num(1000000001), num(-1000000001), num(math.MaxInt), num(math.MinInt)} {
		m[v] = api.ErrShape
	}
	return m
}

// TestI1Fields: all fields with all that they may have: the first one's error is told.
func TestI1Fields(t *testing.T) {
	for k, errK := range fields() {
		for a, errA := range fields() {
			for b, errB := range fields() {
				want := errK
				if want == nil {
					want = errA
				}
				if want == nil {
					want = errB
				}
				e := api.Event{Time: 5, K: k, A: a, B: b}
				if err := source.Check(e); err != want {
					t.Errorf("%v: %v, %v is wanted", e, err, want)
				}
				// The time is ahead of them all.
				e.Time = 10000
				if err := source.Check(e); err != api.ErrBound {
					t.Errorf("%v: %v, ErrBound is wanted", e, err)
				}
			}
		}
	}
}

func TestI2New(t *testing.T) {
	for parts := 1; parts <= 3; parts++ {
		wantAll(t, made(t, parts), make([]int, parts)...)
	}
	for _, parts := range []int{0, -1, 4, 100, math.MaxInt, math.MinInt} {
		if s, err := source.New(parts); err != api.ErrBound || s != nil {
			t.Errorf("New(%d) = %v, %v, ErrBound is wanted", parts, s, err)
		}
	}
}

// TestI2Order: events stand as they came, part by part, whichever part was put to, whatever their times.
func TestI2Order(t *testing.T) {
	s := made(t, 3)
	want := make([][]api.Event, 3)
	for i, part := range []int{1, 1, 0, 2, 0, 1, 2, 2, 1, 0, 0} {
		e := event((7777 * (i + 3)) % 10000)
		wantPut(t, s, part, e, nil)
		wantPut(t, s, part, e, nil) // the same once more is one more
		want[part] = append(want[part], e, e)
		if all := s.All(); !reflect.DeepEqual(all[part], want[part]) {
			t.Fatalf("part %d: %v, %v is wanted", part, all[part], want[part])
		}
	}
	if all := s.All(); !reflect.DeepEqual(all, want) {
		t.Errorf("%v, %v is wanted", all, want)
	}
}

func TestI2Put(t *testing.T) {
	s := filled(t, 2, 0)
	late, wild := api.Event{Time: 10000}, api.Event{A: api.Value{Kind: 2}}
	for _, part := range []int{-1, 2, 3, math.MaxInt, math.MinInt} {
		wantPut(t, s, part, event(1), api.ErrNone)
		wantPut(t, s, part, late, api.ErrNone)
		wantPut(t, s, part, wild, api.ErrNone)
	}
	for part := range 2 {
		wantPut(t, s, part, late, api.ErrBound)
		wantPut(t, s, part, wild, api.ErrShape)
		wantPut(t, s, part, api.Event{B: num(1001)}, api.ErrBound)
		wantPut(t, s, part, api.Event{K: num(-1001), A: api.Value{N: 1}}, api.ErrBound)
	}
	wantAll(t, s, 2, 0)
}

// TestI2Full: a part that is full takes none any more; the others do.
func TestI2Full(t *testing.T) {
	s := filled(t, 40, 39, 0)
	wantAll(t, s, 40, 39, 0)
	wantPut(t, s, 0, event(9), api.ErrFull)
	wantPut(t, s, 0, api.Event{Time: -1}, api.ErrBound)
	wantPut(t, s, 0, api.Event{K: api.Value{Kind: 2}}, api.ErrShape)
	wantPut(t, s, 3, event(9), api.ErrNone)
	wantAll(t, s, 40, 39, 0)
	wantPut(t, s, 1, event(139), nil)
	wantPut(t, s, 1, event(140), api.ErrFull)
	wantPut(t, s, 2, event(200), nil)
	wantAll(t, s, 40, 40, 1)
}

func TestI2Get(t *testing.T) {
	s := filled(t, 3, 0, 1)
	wantAll(t, s, 3, 0, 1)
	for _, at := range [][2]int{{0, 3}, {0, -1}, {0, math.MaxInt}, {0, math.MinInt}, {1, 0}, {1, -1}, {2, 1}, {3, 0}, {-1, 0}, {math.MaxInt, 0}, {math.MinInt, math.MinInt}} {
		if e, is := s.Get(at[0], at[1]); is || e != (api.Event{}) {
			t.Errorf("Get(%d, %d) = %v, %v: there is none", at[0], at[1], e, is)
		}
	}
	wantAll(t, s, 3, 0, 1)
}

// TestZ2: what comes out is the caller's; a source is its own, beside others.
func TestZ2(t *testing.T) {
	s, other := filled(t, 2, 5, 0), filled(t, 1)
	all := s.All()
	for part := range all {
		l := all[part][:cap(all[part])]
		for i := range l {
			l[i] = api.Event{Time: 4444}
		}
		all[part] = nil
	}
	wantAll(t, s, 2, 5, 0)
	before := s.All()
	for i := 5; i < 20; i++ {
		wantPut(t, s, 1, event(100+i), nil)
	}
	if len(before[1]) != 5 {
		t.Errorf("%d events were told, and are %d now", 5, len(before[1]))
	}
	_ = append(before[1], event(3))
	wantAll(t, s, 2, 20, 0)
	wantAll(t, other, 1)
}
