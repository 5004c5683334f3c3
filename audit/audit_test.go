package audit_test

import (
	"fmt"
	"math"
	"math/rand"
	"slices"
	"testing"

	. "fusee/audit"
	"fusee/tenant"
)

// alike tells whether two values are the same, where lists without elements are, too.
func alike(a, b any) bool { return fmt.Sprintf("%+v", a) == fmt.Sprintf("%+v", b) }

// event is one of "a" that is right, with a value, changed.
func event(value int64, change func(e *Event)) Event {
	e := Event{Host: 1, Name: "a", Quantum: 1, R: tenant.Reading{Value: value, Bound: 5}, Known: true, True: value}
	change(&e)
	return e
}

func same(e *Event)  {}
func step(e *Event)  { e.Step = true }
func other(e *Event) { e.Name = "b" }

func TestAD1Back(t *testing.T) {
	for i, c := range []struct {
		l    []Event
		want int
	}{
		{nil, -1}, {[]Event{event(5, same)}, -1}, {[]Event{event(5, same), event(3, same)}, 1}, {[]Event{event(5, same), event(5, same), event(6, same)}, -1},
		{[]Event{event(5, step), event(3, same), event(1, step), event(3, same)}, -1}, {[]Event{event(5, same), event(1, step), event(4, same)}, 2},
		{[]Event{event(5, other), event(3, same), event(1, other), event(2, same)}, 3}, {[]Event{event(-5, same), event(-6, same)}, 1}, {[]Event{event(-5, same), event(0, same), event(-1, same), event(-2, same)}, 2},
		{[]Event{event(3, same), event(9, same), event(5, same), event(1, same)}, 2}, {[]Event{event(math.MinInt64, same), event(math.MinInt64, same)}, -1}, {[]Event{event(math.MaxInt64, same), event(math.MinInt64, same)}, 1},
		{[]Event{event(-3, same), event(-9, step)}, -1},
	} {
		if got := Back(c.l, "a"); got != c.want {
			t.Errorf("Back %d: %d, want %d", i, got, c.want)
		}
	}
}

func TestAD1Coarse(t *testing.T) {
	by := func(q int64) func(e *Event) { return func(e *Event) { e.Quantum = q } }
	for i, c := range []struct {
		l    []Event
		want int
	}{
		{nil, -1}, {[]Event{event(10, by(5)), event(-15, by(5)), event(0, by(1<<36))}, -1}, {[]Event{event(10, by(5)), event(11, by(5))}, 1}, {[]Event{event(5, by(0))}, 0}, {[]Event{event(5, by(-5))}, 0}, {[]Event{event(0, by(1<<36+1))}, 0},
		{[]Event{event(7, func(e *Event) { e.Name, e.Quantum = "b", 5 }), event(8, func(e *Event) { e.Step, e.Quantum = true, 5 })}, 1},
	} {
		if got := Coarse(c.l, "a"); got != c.want {
			t.Errorf("Coarse %d: %d, want %d", i, got, c.want)
		}
	}
}

func TestAD1Far(t *testing.T) {
	is := func(n int64) func(e *Event) { return func(e *Event) { e.True = n } }
	for i, c := range []struct {
		l    []Event
		want int
	}{
		{nil, -1}, {[]Event{event(10, is(5)), event(10, is(15)), event(10, is(10))}, -1}, {[]Event{event(10, same), event(10, is(4))}, 1}, {[]Event{event(10, is(16))}, 0},
		{[]Event{event(10, func(e *Event) { e.Known, e.True = false, 99 })}, -1}, {[]Event{event(10, func(e *Event) { e.Step, e.True = true, 99 })}, -1}, {[]Event{event(10, func(e *Event) { e.Name, e.True = "b", 99 }), event(10, is(99))}, 1},
		{[]Event{event(math.MaxInt64, is(math.MinInt64))}, 0}, {[]Event{event(math.MinInt64, is(math.MaxInt64))}, 0},
		{[]Event{event(math.MaxInt64, func(e *Event) { e.R.Bound, e.True = math.MaxInt64, math.MinInt64 })}, -1}, {[]Event{event(math.MinInt64, func(e *Event) { e.R.Bound, e.True = math.MaxInt64, math.MaxInt64 })}, -1},
		{[]Event{event(3, func(e *Event) { e.R.Bound = -1 })}, 0},
	} {
		if got := Far(c.l, "a"); got != c.want {
			t.Errorf("Far %d: %d, want %d", i, got, c.want)
		}
	}
}

func TestAD2Seen(t *testing.T) {
	l := []Event{event(1, same), event(2, other), event(3, step), event(1, same)}
	got := Seen(l, "a")
	if !alike(got, []Event{l[0], l[2], l[3]}) || len(Seen(l, "c")) != 0 || len(Seen(nil, "a")) != 0 {
		t.Errorf("Seen: %v", got)
	}
	got[0].Name = "!"
	if l[0].Name != "a" {
		t.Error("memory is shared")
	}
}

func TestAD2Same(t *testing.T) {
	l := []Event{event(1, same), event(2, other), event(3, step)}
	alike := []Event{event(9, other), event(1, func(e *Event) { e.Host, e.Known, e.True = 0, false, 77 }), event(3, step)}
	if !Same(l, alike, "a") || Same(l, alike, "b") || !Same(l, alike, "c") || !Same(nil, nil, "a") {
		t.Error("Same of lists that are alike")
	}
	for i, change := range []func(e *Event){func(e *Event) { e.Step = true }, func(e *Event) { e.Quantum++ }, func(e *Event) { e.R.Value++ }, func(e *Event) { e.R.Bound++ }, func(e *Event) { e.R.Raised++ }, func(e *Event) { e.R.Host++ }, func(e *Event) { e.Name = "c" }} {
		m := slices.Clone(l)
		change(&m[0])
		if Same(l, m, "a") || Same(m, l, "a") {
			t.Errorf("Same with change %d", i)
		}
	}
	if Same(l, l[:2], "a") || Same(l[:1], l, "a") || Same(l, []Event{l[2], l[0]}, "a") {
		t.Error("Same of other lists")
	}
}

func TestAD2Worst(t *testing.T) {
	bound := func(n int64) func(e *Event) { return func(e *Event) { e.R.Bound = n } }
	for i, c := range []struct {
		l    []Event
		want int64
	}{
		{nil, 0}, {[]Event{event(1, other)}, 0}, {[]Event{event(1, bound(3)), event(1, bound(8)), event(1, bound(5))}, 8}, {[]Event{event(1, bound(-3)), event(1, bound(-1)), event(1, bound(-2))}, -1},
		{[]Event{event(1, bound(3)), event(1, func(e *Event) { e.Name, e.R.Bound = "b", 99 }), event(1, func(e *Event) { e.Step, e.R.Bound = true, 7 })}, 7}, {[]Event{event(1, bound(math.MinInt64))}, math.MinInt64},
	} {
		if got := Worst(c.l, "a"); got != c.want {
			t.Errorf("Worst %d: %d, want %d", i, got, c.want)
		}
	}
}

func TestAD3(t *testing.T) {
	r := rand.New(rand.NewSource(42))
	for range 500 {
		var l, own []Event
		var places []int
		for i := range 30 {
			e := event(r.Int63n(60)+int64(i), func(e *Event) {
				e.Step, e.Quantum, e.True, e.Known = r.Intn(3) == 0, 1+r.Int63n(2), r.Int63n(80), r.Intn(2) == 0
				e.R.Bound = r.Int63n(60)
			})
			if r.Intn(2) == 0 {
				e.Name = "b"
			} else {
				own, places = append(own, e), append(places, i)
			}
			l = append(l, e)
		}
		for which, f := range []func([]Event, string) int{Back, Coarse, Far} {
			want := f(own, "a")
			if want >= 0 {
				want = places[want]
			}
			got := f(l, "a")
			if got != want {
				t.Fatalf("function %d: %d, without the others %d", which, got, want)
			}
			for n := range l {
				if first := f(l[:n], "a"); got >= n != (first < 0) && got >= 0 {
					t.Fatalf("function %d: %d, of the first %d: %d", which, got, n, first)
				}
			}
		}
	}
}
