package slot_test

import (
	"errors"
	"math"
	"math/rand"
	"slices"
	"testing"

	"fusee/api"
	. "fusee/slot"
)

// code is the number of an error, 0 without one.
func code(err error) int {
	var e api.Errno
	if err == nil {
		return 0
	}
	if errors.As(err, &e) {
		return int(e)
	}
	return -1
}

func good() []Round {
	return []Round{
		{10, []string{"a", "b"}}, {1, []string{""}}, {1 << 30, make([]string, 16)}, {3, []string{"", "abcdefghijkl", "", "x y", "x y"}}, {7, []string{"a", "b", "a", "", "c", "a"}},
	}
}

func wrong() []Round {
	return []Round{{}, {0, []string{"a"}}, {-1, []string{"a"}}, {1<<30 + 1, []string{"a"}}, {1, nil}, {1, make([]string, 17)}, {1, []string{"a", "abcdefghijklm"}}, {math.MinInt64, []string{"a"}}, {math.MaxInt64, []string{"a"}}}
}

func TestSL1Check(t *testing.T) {
	for _, r := range good() {
		if Check(r) != nil {
			t.Errorf("Check(%v): %v", r, Check(r))
		}
		for _, step := range []int64{-1, 1<<60 + 1, math.MinInt64, math.MaxInt64} {
			w, werr := Who(r, step)
			l, lerr := Left(r, step)
			n, nerr := Next(r, "", step)
			if w != "" || l != 0 || n != 0 || code(werr) != 1 || code(lerr) != 1 || code(nerr) != 1 {
				t.Errorf("%v at %d: %v, %v, %v", r, step, werr, lerr, nerr)
			}
		}
	}
	for _, r := range wrong() {
		w, werr := Who(r, 0)
		l, lerr := Left(r, 0)
		n, nerr := Next(r, "a", 0)
		if code(Check(r)) != 1 || w != "" || l != 0 || n != 0 || code(werr) != 1 || code(lerr) != 1 || code(nerr) != 1 || Share(r, "a") != 0 {
			t.Errorf("%v: %v, %v, %v, %v, %d", r, Check(r), werr, lerr, nerr, Share(r, "a"))
		}
	}
}

func TestSL1WhoAndLeft(t *testing.T) {
	r := good()[0]
	for step, want := range map[int64]struct {
		name string
		left int64
	}{0: {"a", 10}, 9: {"a", 1}, 10: {"b", 10}, 15: {"b", 5}, 19: {"b", 1}, 20: {"a", 10}, 1 << 60: {"b", 4}} {
		w, werr := Who(r, step)
		l, lerr := Left(r, step)
		if w != want.name || l != want.left || werr != nil || lerr != nil {
			t.Errorf("step %d: %q, %d, %v, %v", step, w, l, werr, lerr)
		}
	}
	rnd := rand.New(rand.NewSource(39))
	for _, r := range good() {
		for range 200 {
			step := rnd.Int63n(1<<60+1) >> rnd.Intn(60)
			w, _ := Who(r, step)
			l, _ := Left(r, step)
			if w != r.L[step%(r.Steps*int64(len(r.L)))/r.Steps] || l != r.Steps-step%r.Steps {
				t.Errorf("%v at %d: %q, %d", r, step, w, l)
			}
		}
	}
}

func TestSL2(t *testing.T) {
	for _, r := range good() {
		length := r.Steps * int64(len(r.L))
		if length > 1000 {
			continue
		}
		for _, name := range append(slices.Clone(r.L), "nobody", "") {
			for step := range 2 * length {
				want, no := int64(0), 6
				for s := step; s <= step+length && name != ""; s++ {
					if w, _ := Who(r, s); w == name {
						want, no = s, 0
						break
					}
				}
				if got, err := Next(r, name, step); got != want || code(err) != no {
					t.Fatalf("Next(%v, %q, %d): %d, %v; want %d, %d", r, name, step, got, err, want, no)
				}
			}
		}
	}
	for _, c := range []struct {
		r    Round
		name string
		want int64
	}{{good()[0], "a", 20}, {good()[0], "b", 20}, {Round{10, []string{"a", "b"}}, "", 0}, {Round{10, []string{"a", "b"}}, "c", 0}, {good()[4], "a", 21}, {good()[4], "c", 7}, {good()[1], "", 0}, {good()[3], "x y", 6}} {
		want := c.want
		if len(c.r.L) == 2 && c.want == 20 {
			want = 10
		}
		if got := Share(c.r, c.name); got != want {
			t.Errorf("Share(%v, %q): %d", c.r, c.name, got)
		}
	}
	if n, err := Next(Round{10, []string{"a", "b"}}, "a", 1<<60); n != 1<<60+4 || err != nil {
		t.Errorf("Next behind the last step: %d, %v", n, err)
	}
}

func TestSL3(t *testing.T) {
	for _, r := range good() {
		length := r.Steps * int64(len(r.L))
		if length > 1000 {
			continue
		}
		count := map[string]int64{}
		for step := 5 * length; step < 6*length; step++ {
			w, _ := Who(r, step)
			count[w]++
		}
		for name, n := range count {
			if name != "" && n != Share(r, name) {
				t.Errorf("%v: %q has %d steps, its share is %d", r, name, n, Share(r, name))
			}
		}
	}
}
