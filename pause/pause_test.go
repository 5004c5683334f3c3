package pause_test

import (
	"errors"
	"math"
	"math/rand"
	"testing"

	"fusee/api"
	. "fusee/pause"
)

const end = 1 << 62

// code is the number of an error, 0 without one.
func code(err error) int {
	var e api.Errno
	if err == nil {
		return 0
	}
	if errors.As(err, &e) {
		return int(e)
	}
	return -1
}

func TestPA1Check(t *testing.T) {
	for _, p := range []Pause{{}, {true, 0, 0}, {true, end - 1, 1 << 61}, {true, 1 - end, 5}, {false, 0, 1 << 61}} {
		if Check(p) != nil {
			t.Errorf("Check(%v): %v", p, Check(p))
		}
		for _, x := range []int64{end, -end, math.MinInt64, math.MaxInt64} {
			s, serr := Stop(p, x)
			g, gerr := Go(p, x, true)
			v, verr := View(p, x)
			if s != (Pause{}) || g != (Pause{}) || v != 0 || code(serr) != 1 || code(gerr) != 1 || code(verr) != 1 {
				t.Errorf("%v at %d: %v, %v, %v", p, x, serr, gerr, verr)
			}
		}
	}
	for _, p := range []Pause{{false, 1, 0}, {false, -1, 0}, {true, end, 0}, {true, -end, 0}, {true, math.MinInt64, 0}, {true, 0, -1}, {true, 0, 1<<61 + 1}, {false, 0, -1}, {false, 0, math.MaxInt64}} {
		s, serr := Stop(p, 0)
		g, gerr := Go(p, 0, false)
		v, verr := View(p, 0)
		if code(Check(p)) != 1 || s != (Pause{}) || g != (Pause{}) || v != 0 || code(serr) != 1 || code(gerr) != 1 || code(verr) != 1 {
			t.Errorf("%v: %v, %v, %v, %v", p, Check(p), serr, gerr, verr)
		}
	}
}

func TestPA1Stop(t *testing.T) {
	for _, c := range []struct {
		p    Pause
		t    int64
		want Pause
		code int
	}{
		{Pause{}, 5, Pause{true, 5, 0}, 0}, {Pause{false, 0, 9}, -5, Pause{true, -5, 9}, 0}, {Pause{}, end - 1, Pause{true, end - 1, 0}, 0}, {Pause{}, 1 - end, Pause{true, 1 - end, 0}, 0},
		{Pause{true, 5, 0}, 6, Pause{}, 19}, {Pause{true, 5, 0}, end, Pause{}, 1},
	} {
		if got, err := Stop(c.p, c.t); got != c.want || code(err) != c.code {
			t.Errorf("Stop(%v, %d): %v, %v", c.p, c.t, got, err)
		}
	}
}

func TestPA1Go(t *testing.T) {
	for _, c := range []struct {
		p    Pause
		t    int64
		jump bool
		want Pause
		code int
	}{
		{Pause{true, 5, 0}, 9, false, Pause{false, 0, 4}, 0}, {Pause{true, 5, 0}, 9, true, Pause{}, 0}, {Pause{true, 5, 3}, 5, false, Pause{false, 0, 3}, 0}, {Pause{true, 5, 3}, 9, true, Pause{false, 0, 3}, 0},
		{Pause{true, 0, 1<<61 - 4}, 4, false, Pause{false, 0, 1 << 61}, 0}, {Pause{true, 0, 1<<61 - 4}, 5, false, Pause{}, 2}, {Pause{true, 0, 1 << 61}, 5, true, Pause{false, 0, 1 << 61}, 0},
		{Pause{true, 1 - end, 1 << 61}, end - 1, false, Pause{}, 2}, {Pause{true, 1 - end, 1 << 61}, end - 1, true, Pause{false, 0, 1 << 61}, 0},
		{Pause{true, 5, 0}, 4, false, Pause{}, 10}, {Pause{true, 5, 0}, 4, true, Pause{}, 10}, {Pause{true, 0, 1 << 61}, -1, false, Pause{}, 10},
		{Pause{}, 9, false, Pause{}, 19}, {Pause{}, -9, true, Pause{}, 19}, {Pause{}, end, true, Pause{}, 1},
	} {
		if got, err := Go(c.p, c.t, c.jump); got != c.want || code(err) != c.code {
			t.Errorf("Go(%v, %d, %t): %v, %v", c.p, c.t, c.jump, got, err)
		}
	}
}

func TestPA1View(t *testing.T) {
	for _, c := range []struct {
		p    Pause
		t    int64
		want int64
		code int
	}{
		{Pause{}, 7, 7, 0}, {Pause{false, 0, 4}, 10, 6, 0}, {Pause{true, 5, 0}, 100, 5, 0}, {Pause{true, 5, 7}, 100, -2, 0}, {Pause{true, 5, 7}, -100, -2, 0},
		{Pause{false, 0, 5}, 6 - end, 1 - end, 0}, {Pause{false, 0, 5}, 5 - end, 0, 2}, {Pause{false, 0, 1 << 61}, 1 - end, 0, 2}, {Pause{true, 1 - end, 1}, 0, 0, 2}, {Pause{}, 1 - end, 1 - end, 0},
	} {
		if got, err := View(c.p, c.t); got != c.want || code(err) != c.code {
			t.Errorf("View(%v, %d): %d, %v", c.p, c.t, got, err)
		}
	}
}

func TestPA2(t *testing.T) {
	r := rand.New(rand.NewSource(31))
	var p Pause
	now := int64(0)
	for range 500 {
		now += r.Int63n(100)
		at, _ := View(p, now)
		held, err := Stop(p, now)
		if err != nil {
			t.Fatal(err)
		}
		stopped := now
		for range 5 {
			now += r.Int63n(100)
			if still, err := View(held, now); still != at || err != nil {
				t.Fatalf("%d became %d, %v", at, still, err)
			}
		}
		on, gerr := Go(held, now, false)
		further, verr := View(on, now+3)
		jumped, jerr := Go(held, now, true)
		ahead, aerr := View(jumped, now+3)
		if further != at+3 || ahead != at+3+now-stopped || gerr != nil || verr != nil || jerr != nil || aerr != nil {
			t.Fatalf("from %d: %d, %d", at, further, ahead)
		}
		p = on
	}
}
