package local_test

import (
	"errors"
	"math"
	"math/rand"
	"slices"
	"testing"

	"fusee/api"
	. "fusee/local"
	"fusee/zone"
)

// code is the number of an error, 0 without one.
func code(err error) int {
	var e api.Errno
	if err == nil {
		return 0
	}
	if errors.As(err, &e) {
		return int(e)
	}
	return -1
}

// spring has 3600 seconds more from second 100 on.
func spring() zone.Zone { return zone.Zone{Name: "s", L: []zone.Rule{{At: 100, Off: 3600, Name: "t"}}} }

// autumn has 3600 seconds less from second 10000 on.
func autumn() zone.Zone {
	return zone.Zone{Name: "s", First: 3600, L: []zone.Rule{{At: 10000, Off: 0, Name: "t"}}}
}

func TestLC1Show(t *testing.T) {
	for _, c := range []struct {
		z      zone.Zone
		second int64
		want   Wall
	}{
		{spring(), 99, Wall{0, 99}}, {spring(), 100, Wall{0, 3700}}, {spring(), 86399, Wall{1, 3599}}, {spring(), -1, Wall{-1, 86399}},
		{zone.Zone{Name: "w", First: -1}, 0, Wall{-1, 86399}}, {zone.Zone{Name: "w", First: 86399}, 1, Wall{1, 0}},
		{spring(), 1 << 42, Wall{50903316, 12304}}, {spring(), -1 << 42, Wall{-50903317, 77696}},
	} {
		if got, err := Show(c.z, c.second); got != c.want || err != nil {
			t.Errorf("Show(%v, %d): %v, %v", c.z, c.second, got, err)
		}
	}
	for _, second := range []int64{1<<42 + 1, -1<<42 - 1, math.MinInt64, math.MaxInt64} {
		if got, err := Show(spring(), second); got != (Wall{}) || code(err) != 1 {
			t.Errorf("Show at %d: %v, %v", second, got, err)
		}
	}
	if got, err := Show(zone.Zone{}, 0); got != (Wall{}) || code(err) != 1 {
		t.Errorf("Show without a zone: %v, %v", got, err)
	}
}

func TestLC1Errors(t *testing.T) {
	type try struct {
		z zone.Zone
		w Wall
	}
	tries := []try{{zone.Zone{}, Wall{}}, {zone.Zone{Name: "a", First: 86400}, Wall{}}}
	for _, w := range []Wall{{1<<25 + 1, 0}, {-1<<25 - 1, 0}, {0, -1}, {0, 86400}, {math.MinInt64, 0}, {math.MaxInt64, 0}, {0, math.MinInt64}, {0, math.MaxInt64}} {
		tries = append(tries, try{spring(), w})
	}
	for _, c := range tries {
		all, aerr := All(c.z, c.w)
		one, oerr := One(c.z, c.w)
		near, nerr := Near(c.z, c.w)
		if len(all) != 0 || one != 0 || near != 0 || code(aerr) != 1 || code(oerr) != 1 || code(nerr) != 1 {
			t.Errorf("%v: %v, %v; %d, %v; %d, %v", c, all, aerr, one, oerr, near, nerr)
		}
	}
	for _, w := range []Wall{{1 << 25, 86399}, {-1 << 25, 0}} {
		if _, err := All(spring(), w); err != nil {
			t.Errorf("All(%v): %v", w, err)
		}
	}
}

func TestLC1AllAndOne(t *testing.T) {
	for _, c := range []struct {
		z    zone.Zone
		w    Wall
		all  []int64
		code int
	}{
		{spring(), Wall{0, 99}, []int64{99}, 0},
		{spring(), Wall{0, 100}, nil, 11},
		{spring(), Wall{0, 200}, nil, 11},
		{spring(), Wall{0, 3699}, nil, 11},
		{spring(), Wall{0, 3700}, []int64{100}, 0},
		{autumn(), Wall{0, 9999}, []int64{6399}, 0},
		{autumn(), Wall{0, 10000}, []int64{6400, 10000}, 12},
		{autumn(), Wall{0, 13599}, []int64{9999, 13599}, 12},
		{autumn(), Wall{0, 13600}, []int64{13600}, 0},
	} {
		all, err := All(c.z, c.w)
		if !slices.Equal(all, c.all) || err != nil {
			t.Errorf("All(%v): %v, %v", c.w, all, err)
		}
		one, err := One(c.z, c.w)
		if code(err) != c.code || c.code == 0 && one != c.all[0] || c.code != 0 && one != 0 {
			t.Errorf("One(%v): %d, %v", c.w, one, err)
		}
	}
}

func TestLC2(t *testing.T) {
	for _, c := range []struct {
		z    zone.Zone
		w    Wall
		want int64
	}{
		{spring(), Wall{0, 99}, 99}, {spring(), Wall{0, 100}, 100}, {spring(), Wall{0, 200}, 100}, {spring(), Wall{0, 3699}, 100}, {spring(), Wall{0, 3700}, 100},
		{autumn(), Wall{0, 10000}, 6400},
	} {
		if got, err := Near(c.z, c.w); got != c.want || err != nil {
			t.Errorf("Near(%v): %d, %v", c.w, got, err)
		}
	}
}

// scrambled is a zone whose offsets change by chance, within a few seconds.
func scrambled(r *rand.Rand) zone.Zone {
	z := zone.Zone{Name: "r", First: r.Int63n(60) - 30}
	at := int64(0)
	for range r.Intn(8) {
		at += 1 + r.Int63n(30)
		z.L = append(z.L, zone.Rule{At: at, Off: r.Int63n(60) - 30, Name: "r"})
	}
	return z
}

func TestLC3(t *testing.T) {
	r := rand.New(rand.NewSource(11))
	for range 30 {
		z := scrambled(r)
		shown := map[Wall][]int64{}
		for second := int64(-300); second < 700; second++ {
			w, err := Show(z, second)
			if err != nil {
				t.Fatal(err)
			}
			shown[w] = append(shown[w], second)
		}
		for n := int64(-200); n < 500; n++ {
			w := Wall{0, n}
			if n < 0 {
				w = Wall{-1, n + 86400}
			}
			all, err := All(z, w)
			if !slices.Equal(all, shown[w]) || err != nil {
				t.Fatalf("All(%v, %v): %v, %v; want %v", z, w, all, err, shown[w])
			}
			want := jump(z, n)
			if len(all) > 0 {
				want = all[0]
			}
			if got, err := Near(z, w); got != want || err != nil {
				t.Fatalf("Near(%v, %v): %d, %v; want %d", z, w, got, err, want)
			}
		}
	}
}

// jump is the first second at which more than a local second is shown, and less just ahead of it.
func jump(z zone.Zone, n int64) int64 {
	for second := int64(-300); second < 700; second++ {
		before, _, _ := zone.At(z, second-1)
		there, _, _ := zone.At(z, second)
		if second-1+before < n && second+there > n {
			return second
		}
	}
	return -1000
}
