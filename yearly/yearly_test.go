package yearly_test

import (
	"errors"
	"fmt"
	"math"
	"math/rand"
	"slices"
	"strings"
	"testing"
	"time"

	"fusee/api"
	. "fusee/yearly"
	"fusee/zone"
)

// alike tells whether two values are the same, where lists without elements are, too.
func alike(a, b any) bool { return fmt.Sprintf("%+v", a) == fmt.Sprintf("%+v", b) }

// code is the number of an error, 0 without one.
func code(err error) int {
	var e api.Errno
	if err == nil {
		return 0
	}
	if errors.As(err, &e) {
		return int(e)
	}
	return -1
}

const text = "CET,3600,CEST,3600,3.5.7.7200,10.5.7.10800"

// with is Central Europe, changed.
func with(change func(y *Yearly)) Yearly {
	y := Yearly{"CET", 3600, "CEST", 3600, Day{3, 5, 7, 7200}, Day{10, 5, 7, 10800}}
	change(&y)
	return y
}

func good() []Yearly {
	return []Yearly{
		with(func(y *Yearly) {}),
		with(func(y *Yearly) { y.Name, y.Summer = "a/b_C", "abcdefghijkl" }),
		with(func(y *Yearly) { y.Off, y.More = -43200, 1 }), with(func(y *Yearly) { y.Off, y.More = 43200, 7200 }), with(func(y *Yearly) { y.Off, y.More = 50399, 1 }),
		with(func(y *Yearly) { y.Begin, y.End = Day{1, 1, 1, 0}, Day{12, 5, 7, 86399} }),
		with(func(y *Yearly) { y.Begin, y.End = Day{10, 1, 7, 7200}, Day{4, 1, 7, 10800} }),
		with(func(y *Yearly) { y.Begin, y.End = Day{2, 4, 3, 1}, Day{2, 5, 3, 1} }),
	}
}

func wrong() []Yearly {
	return []Yearly{
		{},
		with(func(y *Yearly) { y.Name = "" }), with(func(y *Yearly) { y.Name = "A-B" }), with(func(y *Yearly) { y.Name = "A+B" }), with(func(y *Yearly) { y.Name = "A0" }), with(func(y *Yearly) { y.Name = "9" }), with(func(y *Yearly) { y.Name = "abcdefghijklm" }), with(func(y *Yearly) { y.Name = "a b" }), with(func(y *Yearly) { y.Name = "a,b" }), with(func(y *Yearly) { y.Name = "é" }),
		with(func(y *Yearly) { y.Summer = "" }), with(func(y *Yearly) { y.Summer = "C5" }), with(func(y *Yearly) { y.Summer = "+" }), with(func(y *Yearly) { y.Summer = "-" }),
		with(func(y *Yearly) { y.Off = -43201 }), with(func(y *Yearly) { y.Off = 50400 }), with(func(y *Yearly) { y.Off, y.More = 43201, 7200 }), with(func(y *Yearly) { y.Off = math.MinInt64 }), with(func(y *Yearly) { y.Off = math.MaxInt64 }),
		with(func(y *Yearly) { y.More = 0 }), with(func(y *Yearly) { y.More = 7201 }), with(func(y *Yearly) { y.More = -1 }), with(func(y *Yearly) { y.More = math.MinInt64 }), with(func(y *Yearly) { y.More = math.MaxInt64 }),
		with(func(y *Yearly) { y.Begin.Month = 0 }), with(func(y *Yearly) { y.End.Month = 13 }), with(func(y *Yearly) { y.Begin.Week = 0 }), with(func(y *Yearly) { y.End.Week = 6 }), with(func(y *Yearly) { y.Begin.Weekday = 0 }), with(func(y *Yearly) { y.End.Weekday = 8 }),
		with(func(y *Yearly) { y.Begin.Second = -1 }), with(func(y *Yearly) { y.End.Second = 86400 }), with(func(y *Yearly) { y.End.Month = math.MinInt }), with(func(y *Yearly) { y.Begin.Week = math.MaxInt }),
	}
}

func TestYR1Check(t *testing.T) {
	for _, y := range good() {
		if Check(y) != nil {
			t.Errorf("Check(%v): %v", y, Check(y))
		}
	}
	for _, y := range wrong() {
		a, b, err := Changes(y, 2024)
		z, zerr := Expand(y, 2024, 1)
		s, serr := Text(y)
		if code(Check(y)) != 1 || a != 0 || b != 0 || code(err) != 1 || !alike(z, zone.Zone{}) || code(zerr) != 1 || s != "" || code(serr) != 1 {
			t.Errorf("%v: %v, %v, %v, %v", y, Check(y), err, zerr, serr)
		}
	}
	for _, d := range []Day{{}, {0, 1, 1, 0}, {13, 1, 1, 0}, {1, 0, 1, 0}, {1, 6, 1, 0}, {1, 1, 0, 0}, {1, 1, 8, 0}, {1, 1, 1, -1}, {1, 1, 1, 86400}} {
		if n, err := Which(d, 2024); n != 0 || code(err) != 1 {
			t.Errorf("Which(%v): %d, %v", d, n, err)
		}
	}
	for _, year := range []int{0, -1, 10000, math.MinInt, math.MaxInt} {
		n, err := Which(good()[0].Begin, year)
		a, b, cerr := Changes(good()[0], year)
		if n != 0 || code(err) != 1 || a != 0 || b != 0 || code(cerr) != 1 {
			t.Errorf("year %d: %v, %v", year, err, cerr)
		}
	}
}

// which is the day that is meant, found day by day.
func which(d Day, year int) int64 {
	var found []int64
	for day := time.Date(year, time.Month(d.Month), 1, 0, 0, 0, 0, time.UTC); int(day.Month()) == d.Month; day = day.AddDate(0, 0, 1) {
		if int(day.Weekday()) == d.Weekday%7 {
			found = append(found, day.Unix()/86400)
		}
	}
	if d.Week > len(found) {
		return found[len(found)-1]
	}
	return found[d.Week-1]
}

func TestYR1Which(t *testing.T) {
	if n, err := Which(Day{3, 5, 7, 0}, 2024); n != 19813 || err != nil {
		t.Errorf("the last Sunday of March 2024: %d, %v", n, err)
	}
	for _, year := range []int{1970, 1972, 1999, 2000, 2023, 2024, 2100, 9999} {
		for month := 1; month <= 12; month++ {
			for week := 1; week <= 5; week++ {
				for weekday := 1; weekday <= 7; weekday++ {
					d := Day{month, week, weekday, 77}
					if n, err := Which(d, year); n != which(d, year) || err != nil {
						t.Fatalf("Which(%v, %d): %d, %v; want %d", d, year, n, err, which(d, year))
					}
				}
			}
		}
	}
	for _, year := range []int{1, 9999} {
		if _, err := Which(Day{2, 5, 1, 0}, year); err != nil {
			t.Errorf("Which in %d: %v", year, err)
		}
	}
}

func TestYR1Changes(t *testing.T) {
	for _, y := range good() {
		for _, year := range []int{1971, 2024, 2025} {
			begin := which(y.Begin, year)*86400 + y.Begin.Second - y.Off
			end := which(y.End, year)*86400 + y.End.Second - y.Off - y.More
			if a, b, err := Changes(y, year); a != begin || b != end || err != nil {
				t.Errorf("Changes(%v, %d): %d, %d, %v; want %d, %d", y, year, a, b, err, begin, end)
			}
		}
	}
	a, b, _ := Changes(good()[0], 2024)
	if a != time.Date(2024, 3, 31, 1, 0, 0, 0, time.UTC).Unix() || b != time.Date(2024, 10, 27, 1, 0, 0, 0, time.UTC).Unix() {
		t.Errorf("Changes in 2024: %d, %d", a, b)
	}
}

func TestYR2Expand(t *testing.T) {
	for _, y := range good() {
		for _, many := range []int{1, 2, 16} {
			var l []zone.Rule
			for year := 2010; year < 2010+many; year++ {
				a, b, _ := Changes(y, year)
				both := []zone.Rule{{At: a, Off: y.Off + y.More, Name: y.Summer}, {At: b, Off: y.Off, Name: y.Name}}
				slices.SortFunc(both, func(a, b zone.Rule) int { return int(a.At - b.At) })
				l = append(l, both...)
			}
			first := y.Off
			if l[0].Name == y.Name {
				first += y.More
			}
			want := zone.Zone{Name: y.Name, First: first, L: l}
			got, err := Expand(y, 2010, many)
			if zone.Check(want) != nil {
				if !alike(got, zone.Zone{}) || code(err) != 2 {
					t.Errorf("Expand(%v, %d): %v, %v", y, many, got, err)
				}
			} else if !alike(got, want) || err != nil {
				t.Errorf("Expand(%v, %d): %v, %v; want %v", y, many, got, err, want)
			}
		}
	}
	south, _ := Expand(good()[6], 2010, 1)
	if south.First != 7200 || south.L[0].Name != "CET" {
		t.Errorf("a summer across the new year: %v", south)
	}
}

func TestYR2ExpandErrors(t *testing.T) {
	y := good()[0]
	for _, c := range []struct{ from, many, code int }{
		{1900, 1, 0}, {2200, 1, 0}, {2185, 16, 0}, {1900, 16, 0}, {1899, 1, 1}, {2201, 1, 1}, {2186, 16, 1}, {2000, 0, 1}, {2000, 17, 1}, {2000, -1, 1}, {math.MaxInt, 16, 1}, {math.MinInt, 1, 1}, {2000, math.MinInt, 1}, {2000, math.MaxInt, 1},
	} {
		if z, err := Expand(y, c.from, c.many); code(err) != c.code || c.code != 0 && !alike(z, zone.Zone{}) {
			t.Errorf("Expand(%d, %d): %v, %v", c.from, c.many, z, err)
		}
	}
	same := with(func(y *Yearly) { y.Begin, y.End = Day{3, 5, 7, 7200}, Day{3, 5, 7, 10800} })
	if z, err := Expand(same, 2024, 1); !alike(z, zone.Zone{}) || code(err) != 2 {
		t.Errorf("both at once: %v, %v", z, err)
	}
	if z, err := Expand(same, 2201, 1); !alike(z, zone.Zone{}) || code(err) != 1 {
		t.Errorf("both at once, too late: %v, %v", z, err)
	}
	// The last change of a year is not ahead of the first one of the next.
	turn := with(func(y *Yearly) {
		y.Off, y.Begin, y.End = 0, Day{1, 1, 1, 0}, Day{12, 5, 7, 86399}
	})
	for year := 1900; year < 2200; year++ {
		a, b, _ := Changes(turn, year)
		c, d, _ := Changes(turn, year+1)
		z, err := Expand(turn, year, 2)
		ordered := a < b && b < c && c < d
		if ordered != (err == nil) || err != nil && (code(err) != 2 || !alike(z, zone.Zone{})) {
			t.Fatalf("Expand in %d: %v, %v", year, z, err)
		}
	}
}

func TestYR2Text(t *testing.T) {
	if s, err := Text(good()[0]); s != text || err != nil {
		t.Errorf("Text: %q, %v", s, err)
	}
	for _, y := range good() {
		s, err := Text(y)
		got, perr := Parse(s)
		if got != y || err != nil || perr != nil {
			t.Errorf("Parse(%q): %v, %v, %v", s, got, err, perr)
		}
	}
	for _, change := range [][2]string{
		{"CET,", ","}, {"CET,", "C-T,"}, {"CET,", "C3T,"}, {"CET,", ""}, {"CET", "CET,CET"}, {"CEST", ""}, {"CEST", "C+"}, {",3600,CEST", ",03600,CEST"}, {",3600,CEST", ",+3600,CEST"}, {",3600,CEST", ",,CEST"}, {",3600,CEST", ",-0,CEST"}, {",3600,CEST", ",x,CEST"}, {",3600,CEST", ", 3600,CEST"}, {",3600,CEST", ",50400,CEST"}, {",3600,CEST", ",9223372036854775808,CEST"},
		{"CEST,3600", "CEST,0"}, {"CEST,3600", "CEST,7201"}, {"CEST,3600", "CEST,3600.0"}, {"3.5.7.7200", "3.5.7"}, {"3.5.7.7200", "3.5.7.7200.0"}, {"3.5.7.7200", "03.5.7.7200"}, {"3.5.7.7200", "3.6.7.7200"}, {"3.5.7.7200", "3.5.0.7200"}, {"3.5.7.7200", "3.5.7.86400"}, {"3.5.7.7200", "3.5.7.-1"}, {"3.5.7.7200", "0.5.7.7200"}, {"3.5.7.7200", ""}, {"3.5.7.7200", "..."},
		{"10.5.7.10800", "13.5.7.10800"}, {"10.5.7.10800", "10.5.8.10800"}, {"10.5.7.10800", "10.5.7.10800,"}, {"10.5.7.10800", "10.5.7.10800 "}, {"10.5.7.10800", "10.5.7.x"}, {"10.5.7.10800", "10.x.7.10800"}, {text, ""}, {text, ",,,,,"}, {"10.5.7.10800", "18446744073709551617.5.7.0"},
	} {
		s := strings.Replace(text, change[0], change[1], 1)
		if y, err := Parse(s); y != (Yearly{}) || code(err) != 3 {
			t.Errorf("Parse(%q): %v, %v", s, y, err)
		}
	}
}

func TestYR3(t *testing.T) {
	r := rand.New(rand.NewSource(48))
	expanded := 0
	for range 2000 {
		y := Yearly{"W", r.Int63n(90000) - 43200, "S", 1 + r.Int63n(7200), Day{1 + r.Intn(12), 1 + r.Intn(5), 1 + r.Intn(7), r.Int63n(86400)}, Day{1 + r.Intn(12), 1 + r.Intn(5), 1 + r.Intn(7), r.Int63n(86400)}}
		if Check(y) != nil {
			continue
		}
		year := 1 + r.Intn(9999)
		n, err := Which(y.Begin, year)
		day := time.Unix(n*86400, 0).UTC()
		if err != nil || day.Year() != year || int(day.Month()) != y.Begin.Month || int(day.Weekday()) != y.Begin.Weekday%7 {
			t.Fatalf("Which(%v, %d): %v, %v", y.Begin, year, day, err)
		}
		s, _ := Text(y)
		if back, err := Parse(s); back != y || err != nil {
			t.Fatalf("Parse(%q): %v, %v", s, back, err)
		}
		if z, err := Expand(y, 1900+r.Intn(200), 1+r.Intn(16)); err == nil {
			expanded++
			if zone.Check(z) != nil {
				t.Fatalf("Expand(%v): %v", y, z)
			}
		} else if code(err) != 2 {
			t.Fatal(err)
		}
	}
	if expanded < 100 {
		t.Errorf("only %d zones", expanded)
	}
}
