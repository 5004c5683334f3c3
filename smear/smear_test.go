package smear_test

import (
	"errors"
	"math"
	"math/big"
	"math/rand"
	"slices"
	"testing"

	"fusee/api"
	"fusee/leap"
	. "fusee/smear"
)

const second = 1000000000

// code is the number of an error, 0 without one.
func code(err error) int {
	var e api.Errno
	if err == nil {
		return 0
	}
	if errors.As(err, &e) {
		return int(e)
	}
	return -1
}

func table() leap.Table {
	return leap.Table{Base: 10, Last: 3000, L: []int64{-50000, 100, 101, 2000}}
}

func good() []Smear {
	return []Smear{{Step, 0, 0}, {Linear, 0, 1}, {Linear, 1, 0}, {Linear, 43200, 43199}, {Soft, 0, 3600}, {Soft, 3600, 0}, {Soft, 43199, 43200}, {Linear, 43200, 43200}, {Linear, 500, 700}, {Soft, 2000, 1777}}
}

func wrong() []Smear {
	return []Smear{{Step, 1, 0}, {Step, 0, 1}, {Linear, 0, 0}, {Soft, 0, 3599}, {Soft, 1800, 1799}, {Soft, 0, 0}, {Linear, -1, 5}, {Linear, 5, -1}, {Linear, 43201, 0}, {Soft, 0, 43201},
		{3, 1, 4000}, {3, 0, 0}, {-1, 0, 0}, {-1, 1, 4000}, {Step, math.MinInt64, math.MinInt64}, {Linear, math.MaxInt64, math.MaxInt64}, {Step, -5, 5}}
}

func TestSM1Check(t *testing.T) {
	if Step != 0 || Linear != 1 || Soft != 2 {
		t.Error("the kinds have other numbers")
	}
	for _, s := range good() {
		if Check(s) != nil || Fits(s, table()) != nil {
			t.Errorf("%v: %v, %v", s, Check(s), Fits(s, table()))
		}
	}
	for _, s := range wrong() {
		b, e, werr := Window(s, table(), 1)
		n, aerr := At(s, table(), 1<<62)
		l, lerr := Lag(s, 0)
		if code(Check(s)) != 1 || code(Fits(s, table())) != 1 || b != 0 || e != 0 || code(werr) != 1 || n != 0 || code(aerr) != 1 || l != 0 || code(lerr) != 1 {
			t.Errorf("%v: %v, %v, %v, %v, %v", s, Check(s), Fits(s, table()), werr, aerr, lerr)
		}
	}
}

func TestSM1Fits(t *testing.T) {
	bad := leap.Table{Base: -1}
	for _, s := range good() {
		if code(Fits(s, bad)) != 1 {
			t.Errorf("a wrong table: %v", Fits(s, bad))
		}
		// The leap seconds of neighbouring days are 86,401 seconds apart, as much as the longest window has.
		if err := Fits(s, leap.Table{Last: 10, L: []int64{3, 4, 5}}); err != nil {
			t.Errorf("neighbouring days: %v", err)
		}
	}
}

func TestSM1Window(t *testing.T) {
	x := table()
	for i, day := range x.L {
		begin, _ := leap.Begin(x, day)
		b, e, err := Window(Smear{Linear, 500, 700}, x, i)
		if b != begin+(86400-500)*second || e != begin+(86401+700)*second || err != nil {
			t.Errorf("Window %d: %d, %d, %v", i, b, e, err)
		}
		b, e, err = Window(Smear{}, x, i)
		if b != 0 || e != 0 || code(err) != 1 {
			t.Errorf("Window of a step: %d, %d, %v", b, e, err)
		}
	}
	for _, i := range []int{-1, 4, math.MinInt, math.MaxInt} {
		if b, e, err := Window(Smear{Linear, 1, 1}, x, i); b != 0 || e != 0 || code(err) != 1 {
			t.Errorf("Window %d: %d, %d, %v", i, b, e, err)
		}
	}
}

// quotient is a product divided, rounded down.
func quotient(a, b, c int64) int64 {
	p := new(big.Int).Mul(big.NewInt(a), big.NewInt(b))
	return p.Div(p, big.NewInt(c)).Int64()
}

// lag is what Lag should be.
func lag(s Smear, gone int64) int64 {
	l := (s.Before + s.After + 1) * second
	up := func(a, b int64) int64 {
		n := quotient(a, b, l)
		if new(big.Int).Mul(big.NewInt(n), big.NewInt(l)).Cmp(new(big.Int).Mul(big.NewInt(a), big.NewInt(b))) != 0 {
			n++
		}
		return n
	}
	if s.Kind == Linear {
		return up(gone, second)
	}
	if gone < l/2 {
		return up(gone, quotient(2*second, gone, l))
	}
	return second - quotient(l-gone, quotient(2*second, l-gone, l), l)
}

func TestSM2(t *testing.T) {
	if n, err := Lag(Smear{Linear, 0, 1}, second/2); n != second/4 || err != nil {
		t.Errorf("Lag: %d, %v", n, err)
	}
	r := rand.New(rand.NewSource(12))
	for _, s := range good() {
		l := (s.Before + s.After + 1) * second
		if s.Kind == Step {
			if n, err := Lag(s, 0); n != 0 || code(err) != 1 {
				t.Errorf("Lag of a step: %d, %v", n, err)
			}
			continue
		}
		for _, gone := range []int64{-1, l + 1, math.MinInt64, math.MaxInt64} {
			if n, err := Lag(s, gone); n != 0 || code(err) != 1 {
				t.Errorf("Lag(%v, %d): %d, %v", s, gone, n, err)
			}
		}
		times := []int64{0, 1, 2, l/2 - 1, l / 2, l/2 + 1, l - 2, l - 1, l}
		for range 3000 {
			times = append(times, r.Int63n(l+1))
		}
		for _, gone := range times {
			if n, err := Lag(s, gone); n != lag(s, gone) || err != nil {
				t.Fatalf("Lag(%v, %d): %d, %v; want %d", s, gone, n, err, lag(s, gone))
			}
		}
		if n, _ := Lag(s, l); n != second {
			t.Errorf("Lag(%v) at the end: %d", s, n)
		}
	}
}

// times are some times of a table around its leap seconds, in order.
func times(x leap.Table, s Smear) []int64 {
	r := rand.New(rand.NewSource(13))
	var l []int64
	first, _ := leap.Begin(x, -50000)
	for i, day := range x.L {
		begin, _ := leap.Begin(x, day)
		for _, d := range []int64{-1, 0, 1, 86399999999999, 86400 * second, 86400*second + 1, 86401*second - 1, 86401 * second, 86401*second + 1} {
			l = append(l, begin+d)
		}
		b, e, err := Window(s, x, i)
		if err != nil {
			continue
		}
		l = append(l, b-1, b, b+1, e-1, e, e+1)
		for range 300 {
			n := b + r.Int63n(e-b)
			l = append(l, n, n+1, n+2)
		}
	}
	return slices.DeleteFunc(slices.Compact(slices.Sorted(slices.Values(l))), func(n int64) bool { return n < first })
}

func TestSM3(t *testing.T) {
	x := table()
	for _, s := range good() {
		for _, n := range times(x, s) {
			m, err := leap.UTC(x, n)
			if err != nil {
				t.Fatal(err)
			}
			ahead, _ := leap.Ahead(x, m.Day)
			want := n - ahead*second
			for i, day := range x.L {
				b, e, err := Window(s, x, i)
				if err == nil && n >= b && n < e {
					at, _ := leap.Ahead(x, day)
					want = b - at*second + n - b - lag(s, n-b)
				}
			}
			if got, err := At(s, x, n); got != want || err != nil {
				t.Fatalf("At(%v, %d): %d, %v; want %d", s, n, got, err, want)
			}
		}
		first, _ := leap.Begin(x, -50000)
		last := int64(3000*86400+14) * second
		for n, no := range map[int64]int{first - 1: 2, 1 << 62: 2, -1 << 62: 2, math.MinInt64: 2, last: 10, last - 1: 0} {
			if got, err := At(s, x, n); code(err) != no || no != 0 && got != 0 {
				t.Errorf("At(%v, %d): %d, %v", s, n, got, err)
			}
		}
	}
	if n, err := At(Smear{Linear, 1, 0}, leap.Table{Base: 200}, 1<<62); n != 0 || code(err) != 1 {
		t.Errorf("At with a wrong table: %d, %v", n, err)
	}
}

func TestSM4(t *testing.T) {
	x := table()
	for _, s := range good() {
		if s.Kind == Step {
			continue
		}
		var last, lastTai int64
		for i, n := range times(x, s) {
			got, err := At(s, x, n)
			if err != nil {
				t.Fatal(err)
			}
			if i > 0 && (got < last || got-last > n-lastTai) {
				t.Fatalf("%v: from %d at %d to %d at %d", s, last, lastTai, got, n)
			}
			last, lastTai = got, n
		}
		// Behind the last window: the others may touch the next one.
		_, e, _ := Window(s, x, len(x.L)-1)
		a, aerr := At(s, x, e)
		b, berr := At(Smear{}, x, e)
		if a != b || aerr != nil || berr != nil {
			t.Errorf("%v behind the last window: %d, %d", s, a, b)
		}
	}
}
