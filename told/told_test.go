package told_test

import (
	"errors"
	"math"
	"math/big"
	"math/rand"
	"strings"
	"testing"
	"time"

	"fusee/api"
	"fusee/policy"
	"fusee/prf"
	"fusee/tenant"
	. "fusee/told"
	"fusee/zone"
)

const (
	end    = 1 << 62
	second = 1000000000
)

// code is the number of an error, 0 without one.
func code(err error) int {
	var e api.Errno
	if err == nil {
		return 0
	}
	if errors.As(err, &e) {
		return int(e)
	}
	return -1
}

func moments() []Moment {
	l := []Moment{{0, 0}, {0, 3600}, {0, -3600}, {-1, 0}, {end - 1, 86399}, {1 - end, -86399}, {end - 1, -86399}, {5, 1}, {5, -1}, {5, 59}, {5, 60}, {5, -60}, {86400*second - 1, 1}, {123456789, 45296}}
	r := rand.New(rand.NewSource(49))
	for range 500 {
		off := r.Int63n(2*86399+1) - 86399
		if r.Intn(2) == 0 {
			off = off / 60 * 60
		}
		l = append(l, Moment{r.Int63n(end) - r.Int63n(end), off})
	}
	return l
}

// written is a moment as the time package writes it.
func written(m Moment) string {
	layout := "2006-01-02T15:04:05.000000000-07:00"
	if m.Off%60 != 0 {
		layout += ":05"
	}
	s := time.Unix(0, m.Nano).In(time.FixedZone("", int(m.Off))).Format(strings.TrimSuffix(layout, ":05"))
	if m.Off%60 == 0 {
		return s
	}
	size := m.Off
	if size < 0 {
		size = -size
	}
	sign := "+"
	if m.Off < 0 {
		sign = "-"
	}
	return s[:29] + sign + time.Unix(size, 0).UTC().Format("15:04:05")
}

func TestTD1Text(t *testing.T) {
	if s, err := Text(Moment{0, 3600}); s != "1970-01-01T01:00:00.000000000+01:00" || err != nil {
		t.Errorf("Text: %q, %v", s, err)
	}
	for _, m := range moments() {
		s, err := Text(m)
		if s != written(m) || err != nil || Check(m) != nil {
			t.Errorf("Text(%v): %q, %v; want %q", m, s, err, written(m))
		}
		if got, err := Parse(s); got != m || err != nil {
			t.Errorf("Parse(%q): %v, %v", s, got, err)
		}
	}
	for _, m := range []Moment{{end, 0}, {-end, 0}, {math.MinInt64, 0}, {math.MaxInt64, 0}, {0, 86400}, {0, -86400}, {0, math.MinInt64}, {0, math.MaxInt64}} {
		if s, err := Text(m); s != "" || code(err) != 1 || code(Check(m)) != 1 {
			t.Errorf("Text(%v): %q, %v, %v", m, s, err, Check(m))
		}
	}
}

func TestTD1Parse(t *testing.T) {
	const right = "1970-01-01T01:00:00.000000000+01:00"
	if m, err := Parse(right); m != (Moment{0, 3600}) || err != nil {
		t.Errorf("Parse: %v, %v", m, err)
	}
	for _, s := range []string{
		"", right[:29], right[:30], right[:34], right + ":00", right + ":0", right + " ", right + "0", "1970-01-01T01:00:00.000000000Z", "1970-01-01T01:00:00.000000000-00:00", "1970-01-01T01:00:00.000000000+24:00", "1970-01-01T01:00:00.000000000+00:60", "1970-01-01T01:00:00.000000000+1:00",
		"1970-01-01T01:00:00.000000000 01:00", "1970-01-01T01:00:00.000000000+01-00", "1970-01-01T01:00:00.000000000+01:00:60", "1970-01-01T01:00:00.000000000+23:59:60", "1970-01-01T01:00:00.000000000+01:00:00", "1970-01-01T01:00:00.000000000-00:00:00", "1970-01-01T01:00:00.000000000*01:00",
		"1970-01-01T23:59:60.000000000+00:00", "1970-01-01T24:00:00.000000000+00:00", "1970-02-29T01:00:00.000000000+01:00", "0001-01-01T00:00:00.000000000+00:00", "9999-12-31T23:59:59.999999999+00:00", "2262-04-11T23:47:16.854775807+00:00", "1823-11-12T00:06:21.572612096+00:00", "2116-02-20T23:53:38.427387904+00:00", "1970-01-01 01:00:00.000000000+01:00", "+1:00",
	} {
		if m, err := Parse(s); m != (Moment{}) || code(err) != 3 {
			t.Errorf("Parse(%q): %v, %v", s, m, err)
		}
	}
	for s, want := range map[string]Moment{"2116-02-20T23:53:38.427387903+00:00": {end - 1, 0}, "1823-11-12T00:06:21.572612097+00:00": {1 - end, 0}, "1970-01-01T00:00:00.000000000-00:00:01": {second, -1}, "1970-01-01T23:59:59.000000000+23:59:59": {0, 86399}} {
		if m, err := Parse(s); m != want || err != nil {
			t.Errorf("Parse(%q): %v, %v", s, m, err)
		}
	}
}

func TestTD1Length(t *testing.T) {
	for s, n := range map[string]int64{"0s": 0, "1s": second, "1.5s": 1500000000, "0.000000001s": 1, "0.1s": 100000000, "10s": 10 * second, "0.999999999s": 999999999, "9223372036.854775807s": math.MaxInt64, "12.34s": 12340000000, "100.00000001s": 100000000010} {
		if got, err := Length(n); got != s || err != nil {
			t.Errorf("Length(%d): %q, %v", n, got, err)
		}
		if got, err := Long(s); got != n || err != nil {
			t.Errorf("Long(%q): %d, %v", s, got, err)
		}
	}
	for _, n := range []int64{-1, math.MinInt64} {
		if s, err := Length(n); s != "" || code(err) != 1 {
			t.Errorf("Length(%d): %q, %v", n, s, err)
		}
	}
	for _, s := range []string{"", "s", ".s", "1", "1.5", ".5s", "1.s", "01s", "00s", "1.50s", "1.0s", "1.0000000001s", "-1s", "+1s", "-0s", "1.5ss", "1 s", " 1s", "1,5s", "1.-5s", "1.+5s", "9223372036.854775808s", "9223372037s", "99999999999999999999s", "1e3s", "1_0s", "1.5.5s", "１s", "0.0000000000s"} {
		if n, err := Long(s); n != 0 || code(err) != 3 {
			t.Errorf("Long(%q): %d, %v", s, n, err)
		}
	}
}

func TestTD2(t *testing.T) {
	p := policy.Usual()
	p.Zone = zone.Zone{Name: "Z", First: -3600, L: []zone.Rule{{At: 100, Off: 7200, Name: "two"}, {At: 200, Off: 5, Name: "five"}}}
	x, err := tenant.New("a", prf.Key{}, p)
	if err != nil {
		t.Fatal(err)
	}
	for _, c := range []struct {
		value, bound int64
		want         string
	}{
		{0, 1500000000, "1969-12-31T23:00:00.000000000-01:00 +- 1.5s"}, {100*second - 1, 0, "1969-12-31T23:01:39.999999999-01:00 +- 0s"}, {100 * second, 1, "1970-01-01T02:01:40.000000000+02:00 +- 0.000000001s"},
		{200 * second, math.MaxInt64, "1970-01-01T00:03:25.000000000+00:00:05 +- 9223372036.854775807s"}, {-1, 2 * second, "1969-12-31T22:59:59.999999999-01:00 +- 2s"}, {end - 1, 0, "2116-02-20T23:53:43.427387903+00:00:05 +- 0s"},
	} {
		if got, err := Reading(x, tenant.Reading{Value: c.value, Bound: c.bound, Raised: 7, Host: -9}); got != c.want || err != nil {
			t.Errorf("Reading of %d: %q, %v", c.value, got, err)
		}
	}
	bad := x
	bad.P.Quantum = 0
	for i, c := range []struct {
		x tenant.Tenant
		r tenant.Reading
	}{{bad, tenant.Reading{}}, {tenant.Tenant{}, tenant.Reading{}}, {x, tenant.Reading{Bound: -1}}, {x, tenant.Reading{Value: end}}, {x, tenant.Reading{Value: -end}}, {x, tenant.Reading{Value: math.MinInt64}}, {x, tenant.Reading{Value: math.MaxInt64, Bound: math.MinInt64}}} {
		if got, err := Reading(c.x, c.r); got != "" || code(err) != 1 {
			t.Errorf("Reading %d: %q, %v", i, got, err)
		}
	}
}

func TestTD3(t *testing.T) {
	r := rand.New(rand.NewSource(50))
	l := moments()
	for range 2000 {
		a, b := l[r.Intn(len(l))], l[r.Intn(len(l))]
		b.Off = a.Off
		s, serr := Text(a)
		u, uerr := Text(b)
		if (a.Nano < b.Nano) != (s < u) || serr != nil || uerr != nil {
			t.Fatalf("%v is %q, %v is %q", a, s, b, u)
		}
	}
	for range 2000 {
		n := r.Int63() >> r.Intn(63)
		if r.Intn(2) == 0 {
			n -= n % 1000000
		}
		s, err := Length(n)
		back, lerr := Long(s)
		if back != n || err != nil || lerr != nil {
			t.Fatalf("%d is %q is %d", n, s, back)
		}
		x, ok := new(big.Rat).SetString(strings.TrimSuffix(s, "s"))
		if !ok || x.Mul(x, big.NewRat(second, 1)).Cmp(new(big.Rat).SetInt64(n)) != 0 {
			t.Fatalf("%d is %q", n, s)
		}
	}
}
