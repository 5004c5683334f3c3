package zone_test

import (
	"bytes"
	"errors"
	"math"
	"slices"
	"strings"
	"testing"

	"fusee/api"
	"fusee/crc"
	. "fusee/zone"
)

// code is the number of an error, 0 without one.
func code(err error) int {
	var e api.Errno
	if err == nil {
		return 0
	}
	if errors.As(err, &e) {
		return int(e)
	}
	return -1
}

// many are so many rules in order.
func many(n int) []Rule {
	var l []Rule
	for i := range n {
		l = append(l, Rule{int64(i) * 10, int64(i % 3), "abcdefghijkl"})
	}
	return l
}

// good are some valid zones.
func good() []Zone {
	return []Zone{
		{"UTC", 0, nil},
		{"a", 0, []Rule{{100, 3600, "b"}}},
		{"Etc/GMT_+1-2", -86399, []Rule{{-1 << 40, 86399, "A"}, {-5, -86399, "Z9"}, {1 << 40, 7, "0"}}},
		{"abcdefghijkl", 86399, many(32)},
		{"x", 5, []Rule{{-3, 5, "x"}, {-2, 5, "x"}, {4, 6, "x"}}},
	}
}

// wrong are zones that are not valid.
func wrong() []Zone {
	return []Zone{
		{}, {"", 0, nil}, {"abcdefghijklm", 0, nil}, {"a b", 0, nil}, {"a.", 0, nil}, {"é", 0, nil}, {"a\x00", 0, nil}, {"@", 0, nil}, {"[", 0, nil}, {"`", 0, nil}, {"{", 0, nil}, {":", 0, nil}, {"a,", 0, nil},
		{"a", 86400, nil}, {"a", -86400, nil}, {"a", math.MinInt64, nil},
		{"a", 0, many(33)},
		{"a", 0, []Rule{{0, 0, ""}}}, {"a", 0, []Rule{{0, 0, "abcdefghijklm"}}}, {"a", 0, []Rule{{0, 0, "a b"}}},
		{"a", 0, []Rule{{0, 86400, "a"}}}, {"a", 0, []Rule{{0, -86400, "a"}}},
		{"a", 0, []Rule{{1<<40 + 1, 0, "a"}}}, {"a", 0, []Rule{{-1<<40 - 1, 0, "a"}}}, {"a", 0, []Rule{{math.MaxInt64, 0, "a"}, {math.MinInt64, 0, "a"}}},
		{"a", 0, []Rule{{0, 0, "a"}, {0, 1, "a"}}}, {"a", 0, []Rule{{1, 0, "a"}, {0, 1, "a"}}},
	}
}

func equal(a, b Zone) bool {
	return a.Name == b.Name && a.First == b.First && slices.Equal(a.L, b.L)
}

func TestZN1Check(t *testing.T) {
	for _, z := range good() {
		if err := Check(z); err != nil {
			t.Errorf("Check(%v): %v", z, err)
		}
	}
	for _, z := range wrong() {
		off, name, err := At(z, 0)
		next, nerr := Next(z, math.MinInt64)
		b, berr := Encode(z)
		if code(Check(z)) != 1 || off != 0 || name != "" || code(err) != 1 || next != 0 || code(nerr) != 1 || len(b) != 0 || code(berr) != 1 {
			t.Errorf("%v: %v, %v, %v, %v", z, Check(z), err, nerr, berr)
		}
	}
}

func TestZN1At(t *testing.T) {
	z := Zone{"z", 0, []Rule{{100, 3600, "one"}, {200, -5, "two"}}}
	for _, c := range []struct {
		second, off int64
		name        string
		next        int64
		code        int
	}{
		{math.MinInt64, 0, "z", 100, 0}, {0, 0, "z", 100, 0}, {99, 0, "z", 100, 0},
		{100, 3600, "one", 200, 0}, {199, 3600, "one", 200, 0},
		{200, -5, "two", 0, 6}, {math.MaxInt64, -5, "two", 0, 6},
	} {
		off, name, err := At(z, c.second)
		next, nerr := Next(z, c.second)
		if off != c.off || name != c.name || err != nil || next != c.next || code(nerr) != c.code {
			t.Errorf("second %d: %d, %q, %v, %d, %v", c.second, off, name, err, next, nerr)
		}
	}
	if n, err := Next(Zone{Name: "UTC"}, 0); n != 0 || code(err) != 6 {
		t.Errorf("Next without rules: %d, %v", n, err)
	}
}

// built is a blob of a zone, byte by byte.
func built(inner []byte) []byte {
	b := append([]byte{'t', 'm', 6, byte(len(inner)), byte(len(inner) >> 8)}, inner...)
	s := crc.Sum(b)
	return append(b, byte(s), byte(s>>8), byte(s>>16), byte(s>>24))
}

// content is what a zone's blob has.
func content(z Zone) []byte {
	eight := func(b []byte, n int64) []byte {
		for i := range 8 {
			b = append(b, byte(n>>(8*i)))
		}
		return b
	}
	text := func(b []byte, s string) []byte { return append(append(b, byte(len(s))), s...) }
	b := append(eight(text(nil, z.Name), z.First), byte(len(z.L)))
	for _, r := range z.L {
		b = text(eight(eight(b, r.At), r.Off), r.Name)
	}
	return b
}

func TestZN2(t *testing.T) {
	for _, z := range good() {
		b, err := Encode(z)
		if !bytes.Equal(b, built(content(z))) || err != nil {
			t.Errorf("Encode(%v): %x, %v", z, b, err)
		}
		if got, err := Decode(b); !equal(got, z) || err != nil {
			t.Errorf("Decode: %v, %v; want %v", got, err, z)
		}
	}
	for _, z := range wrong() {
		if got, err := Decode(built(content(z))); !equal(got, Zone{}) || code(err) != 3 {
			t.Errorf("Decode of %v: %v, %v", z, got, err)
		}
	}
	plain := content(good()[1])
	wrongSum := built(plain)
	wrongSum[8]++
	other := built(plain)
	other[2] = 5
	for name, c := range map[string]struct {
		b    []byte
		code int
	}{
		"nothing":      {nil, 3},
		"another kind": {other, 3},
		"a wrong sum":  {wrongSum, 4},
		"no content":   {built(nil), 3},
		"a byte less":  {built(plain[:len(plain)-1]), 3},
		"a byte more":  {built(append(bytes.Clone(plain), 0)), 3},
		"a long name":  {built(content(Zone{Name: strings.Repeat("a", 255)})), 3},
	} {
		if got, err := Decode(c.b); !equal(got, Zone{}) || code(err) != c.code {
			t.Errorf("%s: %v, %v", name, got, err)
		}
	}
}

func TestZN3(t *testing.T) {
	for _, z := range good() {
		for second := int64(-20); second < 400; second++ {
			off, name, _ := At(z, second)
			next, err := Next(z, second)
			if err != nil {
				continue
			}
			if next <= second {
				t.Fatalf("Next(%v, %d): %d", z, second, next)
			}
			if o, n, _ := At(z, next-1); o != off || n != name {
				t.Fatalf("%v changes between %d and %d", z, second, next)
			}
			if !slices.ContainsFunc(z.L, func(r Rule) bool { return r.At == next }) {
				t.Fatalf("Next(%v, %d): %d", z, second, next)
			}
		}
	}
}
