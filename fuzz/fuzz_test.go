package fuzz_test

import (
	"errors"
	"math"
	"testing"

	"fusee/api"
	. "fusee/fuzz"
	"fusee/prf"
)

// code is the number of an error, 0 without one.
func code(err error) int {
	var e api.Errno
	if err == nil {
		return 0
	}
	if errors.As(err, &e) {
		return int(e)
	}
	return -1
}

func good() []Fuzz {
	return []Fuzz{{0, 1}, {1 << 40, 1 << 50}, {5, 7}, {1000, 100}, {1, 1 << 50}}
}

func times() []int64 {
	return []int64{math.MinInt64, math.MinInt64 + 5, -1 << 51, -8, -7, -1, 0, 1, 6, 7, 99, 100, 12345678, 1 << 50, math.MaxInt64}
}

// cell is a time divided, rounded down.
func cell(t, size int64) int64 {
	n := t / size
	if t%size < 0 {
		n--
	}
	return n
}

func TestFZ1(t *testing.T) {
	k := prf.Key{1, 2, 3}
	for _, f := range good() {
		if Check(f) != nil {
			t.Errorf("Check(%v): %v", f, Check(f))
		}
		for _, x := range times() {
			want := int64(prf.Number(k, cell(x, f.Cell), uint64(f.Width)))
			if by, err := By(f, k, x); by != want || err != nil {
				t.Errorf("By(%v, %d): %d, %v; want %d", f, x, by, err, want)
			}
			got, err := At(f, k, x)
			if x < math.MinInt64+want {
				if got != 0 || code(err) != 2 {
					t.Errorf("At(%v, %d): %d, %v", f, x, got, err)
				}
			} else if got != x-want || err != nil {
				t.Errorf("At(%v, %d): %d, %v", f, x, got, err)
			}
		}
	}
	for _, f := range []Fuzz{{-1, 1}, {1<<40 + 1, 1}, {0, 0}, {0, -1}, {0, 1<<50 + 1}, {math.MinInt64, math.MinInt64}, {math.MaxInt64, math.MaxInt64}} {
		by, berr := By(f, k, 5)
		at, aerr := At(f, k, math.MinInt64)
		if code(Check(f)) != 1 || by != 0 || at != 0 || code(berr) != 1 || code(aerr) != 1 {
			t.Errorf("%v: %v, %v, %v", f, Check(f), berr, aerr)
		}
	}
}

func TestFZ1Width0(t *testing.T) {
	for _, x := range times() {
		if got, err := At(Fuzz{0, 3}, prf.Key{9}, x); got != x || err != nil {
			t.Errorf("At %d: %d, %v", x, got, err)
		}
	}
}

func TestFZ2(t *testing.T) {
	k := prf.Key{7}
	f := Fuzz{50, 10}
	seen := map[int64]int64{}
	for x := int64(-500); x < 500; x++ {
		got, err := At(f, k, x)
		if err != nil || got > x || x-got > 50 {
			t.Fatalf("At %d: %d, %v", x, got, err)
		}
		if by, ok := seen[cell(x, 10)]; ok && by != x-got {
			t.Fatalf("within a cell: %d and %d", by, x-got)
		}
		seen[cell(x, 10)] = x - got
	}
	different := map[int64]int{}
	for _, by := range seen {
		different[by]++
	}
	if len(different) < 10 {
		t.Errorf("only %d amounts", len(different))
	}
	if a, _ := By(Fuzz{1 << 40, 10}, prf.Key{1}, 5); a == func() int64 { b, _ := By(Fuzz{1 << 40, 10}, prf.Key{2}, 5); return b }() {
		t.Error("two keys have the same amount")
	}
}
