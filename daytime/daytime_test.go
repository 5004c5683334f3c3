package daytime_test

import (
	"errors"
	"math"
	"math/rand"
	"testing"

	"fusee/api"
	. "fusee/daytime"
)

// code is the number of an error, 0 without one.
func code(err error) int {
	var e api.Errno
	if err == nil {
		return 0
	}
	if errors.As(err, &e) {
		return int(e)
	}
	return -1
}

func TestDT1Every(t *testing.T) {
	n := int64(0)
	for h := range 24 {
		for m := range 60 {
			for s := range 60 {
				x := Time{h, m, s}
				got, err := Seconds(x)
				back, berr := Of(n)
				if Check(x) != nil || got != n || err != nil || back != x || berr != nil {
					t.Fatalf("%v: %d, %v, %v, %v", x, got, err, back, berr)
				}
				n++
			}
		}
	}
	leap := Time{23, 59, 60}
	got, err := Seconds(leap)
	back, berr := Of(86400)
	if Check(leap) != nil || got != 86400 || err != nil || back != leap || berr != nil {
		t.Errorf("%v: %d, %v, %v, %v", leap, got, err, back, berr)
	}
}

func TestDT1Errors(t *testing.T) {
	for _, x := range []Time{{24, 0, 0}, {-1, 0, 0}, {0, 60, 0}, {0, -1, 0}, {0, 0, 60}, {0, 0, -1}, {23, 58, 60}, {22, 59, 60}, {23, 59, 61}, {24, 59, 60}, {math.MinInt, 0, 0}, {0, math.MaxInt, 0}} {
		if n, err := Seconds(x); code(Check(x)) != 1 || n != 0 || code(err) != 1 {
			t.Errorf("%v: %v, %d, %v", x, Check(x), n, err)
		}
	}
	for _, n := range []int64{-1, 86401, math.MinInt64, math.MaxInt64} {
		if x, err := Of(n); x != (Time{}) || code(err) != 1 {
			t.Errorf("Of(%d): %v, %v", n, x, err)
		}
	}
}

func TestDT2Stamp(t *testing.T) {
	for _, c := range []struct {
		day, second, nano int64
		want              string
		code              int
	}{
		{0, 3661, 0, "1970-01-01T01:01:01.000000000", 0},
		{11016, 86400, 999999999, "2000-02-29T23:59:60.999999999", 0},
		{-719162, 0, 1, "0001-01-01T00:00:00.000000001", 0},
		{2932896, 86399, 12345, "9999-12-31T23:59:59.000012345", 0},
		{0, -1, 0, "", 1},
		{0, 86401, 0, "", 1},
		{0, 0, -1, "", 1},
		{0, 0, 1000000000, "", 1},
		{-719163, 0, 0, "", 2},
		{2932897, 0, 0, "", 2},
		{math.MaxInt64, 86401, 0, "", 1},
		{math.MinInt64, 0, math.MaxInt64, "", 1},
	} {
		if got, err := Stamp(c.day, c.second, c.nano); got != c.want || code(err) != c.code {
			t.Errorf("Stamp(%d, %d, %d): %q, %v", c.day, c.second, c.nano, got, err)
		}
	}
}

func TestDT2Parse(t *testing.T) {
	if d, s, n, err := Parse("2000-02-29T23:59:60.012345678"); d != 11016 || s != 86400 || n != 12345678 || err != nil {
		t.Errorf("Parse: %d, %d, %d, %v", d, s, n, err)
	}
	for _, s := range []string{"", "1970-01-01", "1970-01-01T01:01:01", "1970-01-01T01:01:01.00000000", "1970-01-01T01:01:01.0000000000", "1970-01-01 01:01:01.000000000",
		"1970-01-01T01-01:01.000000000", "1970-01-01T01:01-01.000000000", "1970-01-01T01:01:01,000000000", "1970-01-32T01:01:01.000000000", "1970x01-01T01:01:01.000000000",
		"1970-01-01T24:00:00.000000000", "1970-01-01T00:60:00.000000000", "1970-01-01T00:00:60.000000000", "1970-01-01T23:59:61.000000000", "1970-01-01T22:59:60.000000000",
		"1970-01-01T-1:00:00.000000000", "1970-01-01T00:+1:00.000000000", "1970-01-01T00:00: 1.000000000", "1970-01-01T00:00:00.00000000x", "1970-01-01T00:00:00.-00000000", "1970-01-01t00:00:00.000000000"} {
		if d, n, o, err := Parse(s); d != 0 || n != 0 || o != 0 || code(err) != 3 {
			t.Errorf("Parse(%q): %d, %d, %d, %v", s, d, n, o, err)
		}
	}
}

func TestDT3(t *testing.T) {
	r := rand.New(rand.NewSource(8))
	lastDay, lastSecond, lastNano, last := int64(0), int64(0), int64(0), "1970-01-01T00:00:00.000000000"
	for range 5000 {
		day, second, nano := r.Int63n(3652059)-719162, r.Int63n(86401), r.Int63n(1000000000)
		if r.Intn(2) == 0 {
			day = lastDay
			if r.Intn(2) == 0 {
				second = lastSecond
			}
		}
		s, err := Stamp(day, second, nano)
		d, n, o, perr := Parse(s)
		if d != day || n != second || o != nano || err != nil || perr != nil {
			t.Fatalf("%d, %d, %d: %q, %d, %d, %d, %v", day, second, nano, s, d, n, o, perr)
		}
		later := day > lastDay || day == lastDay && (second > lastSecond || second == lastSecond && nano > lastNano)
		if later != (s > last) {
			t.Fatalf("%q and %q are in another order", last, s)
		}
		lastDay, lastSecond, lastNano, last = day, second, nano, s
	}
}
