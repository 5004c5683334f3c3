package floor_test

import (
	"errors"
	"math"
	"math/rand"
	"testing"

	"fusee/api"
	. "fusee/floor"
)

// code is the number of an error, 0 without one.
func code(err error) int {
	var e api.Errno
	if err == nil {
		return 0
	}
	if errors.As(err, &e) {
		return int(e)
	}
	return -1
}

func TestFL1Take(t *testing.T) {
	for _, c := range []struct {
		f         Floor
		t         int64
		value, by int64
	}{
		{Floor{}, 5, 5, 0}, {Floor{}, -5, -5, 0}, {Floor{false, 99}, 5, 5, 0}, {Floor{}, math.MinInt64, math.MinInt64, 0},
		{Floor{true, 5}, 3, 5, 2}, {Floor{true, 5}, 5, 5, 0}, {Floor{true, 5}, 6, 6, 0}, {Floor{true, 0}, -1, 0, 1},
		{Floor{true, math.MaxInt64}, -1, math.MaxInt64, math.MaxInt64}, {Floor{true, 0}, math.MinInt64, 0, math.MaxInt64}, {Floor{true, math.MaxInt64}, math.MinInt64, math.MaxInt64, math.MaxInt64},
		{Floor{true, math.MaxInt64}, 1, math.MaxInt64, math.MaxInt64 - 1},
	} {
		value, by, next := Take(c.f, c.t)
		if value != c.value || by != c.by || next != (Floor{true, c.value}) {
			t.Errorf("Take(%v, %d): %d, %d, %v", c.f, c.t, value, by, next)
		}
		if got := Raise(c.f, c.t); got != (Floor{true, c.value}) {
			t.Errorf("Raise(%v, %d): %v", c.f, c.t, got)
		}
	}
}

func TestFL2(t *testing.T) {
	for _, c := range []struct {
		f     Floor
		by, q int64
		want  Floor
		code  int
	}{
		{Floor{}, 5, 3, Floor{}, 0}, {Floor{false, 7}, 5, 3, Floor{false, 7}, 0},
		{Floor{true, 7}, 0, 1, Floor{true, 7}, 0}, {Floor{true, 7}, 0, 5, Floor{true, 10}, 0}, {Floor{true, 7}, 3, 5, Floor{true, 10}, 0}, {Floor{true, 7}, 4, 5, Floor{true, 15}, 0},
		{Floor{true, -7}, 0, 5, Floor{true, -5}, 0}, {Floor{true, -7}, 10, 5, Floor{true, 5}, 0}, {Floor{true, 10}, 0, 5, Floor{true, 10}, 0},
		{Floor{true, math.MaxInt64}, math.MaxInt64, 1, Floor{true, math.MaxInt64}, 0}, {Floor{true, math.MaxInt64 - 5}, 100, 7, Floor{true, math.MaxInt64}, 0},
		{Floor{true, math.MaxInt64}, 0, 2, Floor{}, 2}, {Floor{true, 5}, math.MaxInt64, 2, Floor{}, 2}, {Floor{true, math.MinInt64}, 0, 1 << 36, Floor{true, math.MinInt64}, 0},
		{Floor{true, 7}, -1, 5, Floor{}, 1}, {Floor{true, 7}, 0, 0, Floor{}, 1}, {Floor{true, 7}, 0, 1<<36 + 1, Floor{}, 1}, {Floor{}, -1, 5, Floor{}, 1}, {Floor{}, 0, 0, Floor{}, 1},
		{Floor{true, 7}, math.MinInt64, 5, Floor{}, 1}, {Floor{false, 7}, 0, -1, Floor{}, 1},
	} {
		if got, err := Margin(c.f, c.by, c.q); got != c.want || code(err) != c.code {
			t.Errorf("Margin(%v, %d, %d): %v, %v; want %v, %d", c.f, c.by, c.q, got, err, c.want, c.code)
		}
	}
}

func TestFL3(t *testing.T) {
	r := rand.New(rand.NewSource(30))
	var f, g Floor
	last, up := int64(math.MinInt64), int64(-1000)
	for range 2000 {
		var value int64
		value, _, f = Take(f, r.Int63n(1000000)-500000)
		if value < last {
			t.Fatalf("%d behind %d", value, last)
		}
		last = value
		up += r.Int63n(3)
		var by int64
		value, by, g = Take(g, up)
		if value != up || by != 0 {
			t.Fatalf("%d became %d", up, value)
		}
	}
}
