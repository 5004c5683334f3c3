package civil_test

import (
	"errors"
	"math"
	"testing"
	"time"

	"fusee/api"
	. "fusee/civil"
)

// code is the number of an error, 0 without one.
func code(err error) int {
	var e api.Errno
	if err == nil {
		return 0
	}
	if errors.As(err, &e) {
		return int(e)
	}
	return -1
}

func TestCV1LeapAndMonth(t *testing.T) {
	for y, want := range map[int]bool{2000: true, 1900: false, 1904: true, 2023: false, 2024: true, 0: true, -4: true, -100: false, -400: true, -1: false, -3: false,
		10000: true, math.MaxInt: false, math.MinInt: false, math.MinInt + 4: true} {
		if y == math.MinInt {
			want = y%400 == 0 || y%100 != 0
		}
		if Leap(y) != want {
			t.Errorf("Leap(%d): %t", y, !want)
		}
	}
	want := []int{0, 31, 28, 31, 30, 31, 30, 31, 31, 30, 31, 30, 31, 0}
	for m, n := range want {
		if got := Month(2023, m); got != n {
			t.Errorf("Month(2023, %d): %d", m, got)
		}
		if m == 2 {
			n = 29
		}
		if got := Month(2024, m); got != n {
			t.Errorf("Month(2024, %d): %d", m, got)
		}
	}
	for _, m := range []int{-1, math.MinInt, math.MaxInt} {
		if Month(2024, m) != 0 {
			t.Errorf("Month(2024, %d)", m)
		}
	}
}

// wrong are dates that are not valid.
func wrong() []Date {
	return []Date{{}, {0, 1, 1}, {10000, 1, 1}, {-1, 1, 1}, {2024, 0, 1}, {2024, 13, 1}, {2024, -1, 1}, {2024, 1, 0}, {2024, 1, -1}, {2024, 1, 32},
		{2023, 2, 29}, {1900, 2, 29}, {2024, 2, 30}, {2024, 4, 31}, {2024, 6, 31}, {2024, 9, 31}, {2024, 11, 31}, {2024, 12, 32},
		{math.MaxInt, 1, 1}, {2024, math.MinInt, 1}, {2024, 1, math.MaxInt}}
}

func TestCV1Errors(t *testing.T) {
	for _, d := range wrong() {
		if code(Check(d)) != 1 {
			t.Errorf("Check(%v): %v", d, Check(d))
		}
		if n, err := Days(d); n != 0 || code(err) != 1 {
			t.Errorf("Days(%v): %d, %v", d, n, err)
		}
		if s, err := Text(d); s != "" || code(err) != 1 {
			t.Errorf("Text(%v): %q, %v", d, s, err)
		}
	}
	for _, n := range []int64{-719163, 2932897, math.MinInt64, math.MaxInt64} {
		if d, err := Of(n); d != (Date{}) || code(err) != 2 {
			t.Errorf("Of(%d): %v, %v", n, d, err)
		}
	}
}

func TestCV1EveryDay(t *testing.T) {
	day := time.Date(1, 1, 1, 0, 0, 0, 0, time.UTC)
	for n := int64(-719162); n <= 2932896; n++ {
		d := Date{day.Year(), int(day.Month()), day.Day()}
		if Check(d) != nil {
			t.Fatalf("Check(%v): %v", d, Check(d))
		}
		if got, err := Days(d); got != n || err != nil {
			t.Fatalf("Days(%v): %d, %v; want %d", d, got, err, n)
		}
		if got, err := Of(n); got != d || err != nil {
			t.Fatalf("Of(%d): %v, %v; want %v", n, got, err, d)
		}
		if got := Weekday(n); got%7 != int(day.Weekday()) || got < 1 || got > 7 {
			t.Fatalf("Weekday(%d): %d, want %v", n, got, day.Weekday())
		}
		day = day.AddDate(0, 0, 1)
	}
}

func TestCV2Weekday(t *testing.T) {
	for n, want := range map[int64]int{0: 4, 1: 5, 3: 7, 4: 1, -1: 3, -3: 1, -4: 7, 11016: 2} {
		if got := Weekday(n); got != want {
			t.Errorf("Weekday(%d): %d", n, got)
		}
	}
	for _, n := range []int64{math.MinInt64, math.MaxInt64 - 7} {
		if a, b := Weekday(n), Weekday(n+7); a != b || a < 1 || a > 7 {
			t.Errorf("Weekday(%d): %d, %d", n, a, b)
		}
	}
	if Weekday(math.MaxInt64) != 4 {
		// 2^63 is 1 more than a multiple of 7, so that 2^63 - 1 is a multiple.
		t.Errorf("Weekday(2^63 - 1): %d", Weekday(math.MaxInt64))
	}
}

func TestCV2Text(t *testing.T) {
	for s, d := range map[string]Date{"0001-01-01": {1, 1, 1}, "2000-02-29": {2000, 2, 29}, "9999-12-31": {9999, 12, 31}, "0987-10-09": {987, 10, 9}} {
		if got, err := Text(d); got != s || err != nil {
			t.Errorf("Text(%v): %q, %v", d, got, err)
		}
		if got, err := Parse(s); got != d || err != nil {
			t.Errorf("Parse(%q): %v, %v", s, got, err)
		}
	}
	for _, s := range []string{"", "2000-02-2", "2000-02-299", "2000-02-30", "2001-02-29", "0000-01-01", "2000-00-01", "2000-13-01", "2000-01-00", "2000-1-001",
		"2000/01-01", "2000-01/01", "+200-01-01", "-200-01-01", "2000-+1-01", "2000-01- 1", " 2000-01-01", "2000-01-01 ", "200x-01-01", "2000-0x-01", "2000-01-0x", "20000-1-01", "2000-01-0\xff", "２000-01-01"} {
		if got, err := Parse(s); got != (Date{}) || code(err) != 3 {
			t.Errorf("Parse(%q): %v, %v", s, got, err)
		}
	}
}

func TestCV3(t *testing.T) {
	if n, err := Days(Date{2000, 2, 29}); n != 11016 || err != nil {
		t.Errorf("Days: %d, %v", n, err)
	}
	for n := int64(-719162); n <= 2932896; n += 97 {
		d, err := Of(n)
		back, berr := Days(d)
		s, serr := Text(d)
		p, perr := Parse(s)
		if back != n || p != d || err != nil || berr != nil || serr != nil || perr != nil {
			t.Fatalf("%d: %v, %d, %q, %v", n, d, back, s, p)
		}
	}
}
