package leap_test

import (
	"bytes"
	"errors"
	"math"
	"math/rand"
	"slices"
	"testing"

	"fusee/api"
	"fusee/crc"
	. "fusee/leap"
)

// code is the number of an error, 0 without one.
func code(err error) int {
	var e api.Errno
	if err == nil {
		return 0
	}
	if errors.As(err, &e) {
		return int(e)
	}
	return -1
}

// many are so many days in order from one on.
func many(n int, from int64) []int64 {
	l := make([]int64, n)
	for i := range l {
		l[i] = from + int64(i)
	}
	return l
}

// good are some valid tables.
func good() []Table {
	return []Table{
		{10, 2000, []int64{911}},
		{0, -50000, nil},
		{100, 50000, many(32, 49968)},
		{37, 50000, []int64{-50000, -1, 0, 49999}},
		{0, 3, []int64{0, 1, 2}},
		{5, 100, nil},
	}
}

// wrong are tables that are not valid.
func wrong() []Table {
	return []Table{
		{-1, 10, nil}, {101, 10, nil}, {0, -50001, nil}, {0, 50001, nil}, {math.MinInt64, math.MaxInt64, nil},
		{0, 10, []int64{10}}, {0, 10, []int64{11}}, {0, 10, []int64{-50001}}, {0, 10, []int64{3, 3}}, {0, 10, []int64{4, 3}},
		{0, 50000, many(33, 0)}, {0, 10, []int64{math.MaxInt64, math.MinInt64}}, {0, -50000, []int64{-50000}},
	}
}

func TestLP1Check(t *testing.T) {
	for _, x := range good() {
		if err := Check(x); err != nil {
			t.Errorf("Check(%v): %v", x, err)
		}
	}
	for _, x := range wrong() {
		if code(Check(x)) != 1 {
			t.Errorf("Check(%v): %v", x, Check(x))
		}
		a, aerr := Ahead(x, 0)
		l, lerr := Length(x, 0)
		b, berr := Begin(x, 0)
		if a != 0 || l != 0 || b != 0 || code(aerr) != 1 || code(lerr) != 1 || code(berr) != 1 {
			t.Errorf("%v: %v, %v, %v", x, aerr, lerr, berr)
		}
		u, uerr := UTC(x, math.MaxInt64)
		n, nerr := TAI(x, Moment{})
		e, eerr := Encode(x)
		if u != (Moment{}) || n != 0 || len(e) != 0 || code(uerr) != 1 || code(nerr) != 1 || code(eerr) != 1 {
			t.Errorf("%v: %v, %v, %v", x, uerr, nerr, eerr)
		}
	}
}

func TestLP1Days(t *testing.T) {
	if n, err := Begin(good()[0], 912); n != (86400*912+11)*1000000000 || err != nil {
		t.Errorf("Begin(912): %d, %v", n, err)
	}
	for _, x := range good() {
		begin := (-86400*50000 + x.Base) * 1000000000
		for day := int64(-50000); day < x.Last; day++ {
			length := int64(86400)
			if slices.Contains(x.L, day) {
				length++
			}
			b, berr := Begin(x, day)
			l, lerr := Length(x, day)
			a, aerr := Ahead(x, day)
			if b != begin || l != length || a != begin/1000000000-86400*day || berr != nil || lerr != nil || aerr != nil {
				t.Fatalf("day %d of %v: %d, %d, %d; want %d, %d", day, x, b, l, a, begin, length)
			}
			begin += length * 1000000000
		}
		for day, no := range map[int64]int{-50001: 2, math.MinInt64: 2, x.Last: 9 + 1, x.Last + 1: 10, math.MaxInt64: 10} {
			a, aerr := Ahead(x, day)
			l, lerr := Length(x, day)
			b, berr := Begin(x, day)
			if a != 0 || l != 0 || b != 0 || code(aerr) != no || code(lerr) != no || code(berr) != no {
				t.Errorf("day %d of %v: %v, %v, %v", day, x, aerr, lerr, berr)
			}
		}
	}
}

func TestLP2UTC(t *testing.T) {
	x := good()[0]
	first := int64(-86400*50000+10) * 1000000000
	last := int64(86400*2000+11) * 1000000000
	noon := int64(86400*911+10) * 1000000000
	for _, c := range []struct {
		tai  int64
		want Moment
		code int
	}{
		{10000000000, Moment{0, 0, 0}, 0},
		{9999999999, Moment{-1, 86399, 999999999}, 0},
		{first, Moment{-50000, 0, 0}, 0},
		{first - 1, Moment{}, 2},
		{last - 1, Moment{1999, 86399, 999999999}, 0},
		{last, Moment{}, 10},
		{noon + 86399999999999, Moment{911, 86399, 999999999}, 0},
		{noon + 86400000000000, Moment{911, 86400, 0}, 0},
		{noon + 86400999999999, Moment{911, 86400, 999999999}, 0},
		{noon + 86401000000000, Moment{912, 0, 0}, 0},
		{1<<62 - 1, Moment{}, 10},
		{1 << 62, Moment{}, 2},
		{-1 << 62, Moment{}, 2},
		{math.MinInt64, Moment{}, 2},
		{math.MaxInt64, Moment{}, 2},
	} {
		if got, err := UTC(x, c.tai); got != c.want || code(err) != c.code {
			t.Errorf("UTC(%d): %v, %v; want %v, %d", c.tai, got, err, c.want, c.code)
		}
	}
	if got, err := UTC(Table{Last: -50000}, 0); got != (Moment{}) || code(err) != 10 {
		t.Errorf("a table that knows nothing: %v, %v", got, err)
	}
}

func TestLP2TAI(t *testing.T) {
	x := good()[0]
	for _, c := range []struct {
		m    Moment
		want int64
		code int
	}{
		{Moment{0, 0, 0}, 10000000000, 0},
		{Moment{911, 86400, 5}, (86400*912+10)*1000000000 + 5, 0},
		{Moment{911, 86401, 5}, 0, 1},
		{Moment{912, 86400, 0}, 0, 1},
		{Moment{912, 86399, 0}, (86400*912 + 11 + 86399) * 1000000000, 0},
		{Moment{0, -1, 0}, 0, 1},
		{Moment{0, 0, -1}, 0, 1},
		{Moment{0, 0, 1000000000}, 0, 1},
		{Moment{-50001, 0, 0}, 0, 2},
		{Moment{2000, 0, 0}, 0, 10},
		{Moment{-50001, -1, 0}, 0, 1},
		{Moment{2000, 0, -1}, 0, 1},
		{Moment{2000, math.MaxInt64, 0}, 0, 10},
		{Moment{-50001, math.MaxInt64, 0}, 0, 2},
		{Moment{0, math.MaxInt64, 0}, 0, 1},
		{Moment{math.MinInt64, 0, 0}, 0, 2},
		{Moment{math.MaxInt64, 0, 0}, 0, 10},
	} {
		if got, err := TAI(x, c.m); got != c.want || code(err) != c.code {
			t.Errorf("TAI(%v): %d, %v; want %d, %d", c.m, got, err, c.want, c.code)
		}
	}
}

// built is a blob of leap seconds, byte by byte.
func built(inner []byte) []byte {
	b := append([]byte{'t', 'm', 5, byte(len(inner)), byte(len(inner) >> 8)}, inner...)
	s := crc.Sum(b)
	return append(b, byte(s), byte(s>>8), byte(s>>16), byte(s>>24))
}

// eight is a number in eight bytes.
func eight(n int64) []byte {
	var b []byte
	for i := range 8 {
		b = append(b, byte(n>>(8*i)))
	}
	return b
}

// content is what a table's blob has.
func content(x Table) []byte {
	b := append(append(eight(x.Base), eight(x.Last)...), byte(len(x.L)))
	for _, day := range x.L {
		b = append(b, eight(day)...)
	}
	return b
}

func TestLP3(t *testing.T) {
	for _, x := range good() {
		b, err := Encode(x)
		if !bytes.Equal(b, built(content(x))) || err != nil {
			t.Errorf("Encode(%v): %x, %v", x, b, err)
		}
		got, err := Decode(b)
		if got.Base != x.Base || got.Last != x.Last || !slices.Equal(got.L, x.L) || err != nil {
			t.Errorf("Decode: %v, %v; want %v", got, err, x)
		}
	}
	for _, x := range wrong() {
		got, err := Decode(built(content(x)))
		if got.Base != 0 || got.Last != 0 || len(got.L) != 0 || code(err) != 3 {
			t.Errorf("Decode of %v: %v, %v", x, got, err)
		}
	}
	plain := content(good()[0])
	wrongSum := built(plain)
	wrongSum[8]++
	other := built(plain)
	other[2] = 6
	for name, c := range map[string]struct {
		b    []byte
		code int
	}{
		"nothing":        {nil, 3},
		"another kind":   {other, 3},
		"a wrong sum":    {wrongSum, 4},
		"no content":     {built(nil), 3},
		"a byte less":    {built(plain[:len(plain)-1]), 3},
		"a byte more":    {built(append(bytes.Clone(plain), 0)), 3},
		"no days at all": {built(plain[:16]), 3},
	} {
		if got, err := Decode(c.b); len(got.L) != 0 || got.Base != 0 || code(err) != c.code {
			t.Errorf("%s: %v, %v", name, got, err)
		}
	}
}

func TestLP4(t *testing.T) {
	r := rand.New(rand.NewSource(9))
	for _, x := range good() {
		first := (-86400*50000 + x.Base) * 1000000000
		span := (86400*(x.Last+50000) + int64(len(x.L))) * 1000000000
		if span == 0 {
			continue
		}
		var times []int64
		for range 2000 {
			times = append(times, first+r.Int63n(span))
		}
		for _, day := range x.L {
			begin, _ := Begin(x, day)
			for _, d := range []int64{-1, 0, 86399999999999, 86400000000000, 86400999999999, 86401000000000} {
				if n := begin + d; n >= first && n < first+span {
					times = append(times, n)
				}
			}
		}
		slices.Sort(times)
		last := Moment{Day: -60000}
		for i, n := range times {
			m, err := UTC(x, n)
			back, berr := TAI(x, m)
			if back != n || err != nil || berr != nil {
				t.Fatalf("%d of %v: %v, %v; %d, %v", n, x, m, err, back, berr)
			}
			later := m.Day > last.Day || m.Day == last.Day && (m.Second > last.Second || m.Second == last.Second && m.Nano > last.Nano)
			if !later && (i == 0 || times[i-1] != n) {
				t.Fatalf("%v is not later than %v", m, last)
			}
			last = m
		}
	}
}
