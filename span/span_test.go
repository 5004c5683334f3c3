package span_test

import (
	"errors"
	"math"
	"math/big"
	"math/rand"
	"testing"

	"fusee/api"
	. "fusee/span"
)

const (
	least    = math.MinInt64
	greatest = math.MaxInt64
)

// code is the number of an error, 0 without one.
func code(err error) int {
	var e api.Errno
	if err == nil {
		return 0
	}
	if errors.As(err, &e) {
		return int(e)
	}
	return -1
}

func some() []Span {
	return []Span{{0, 0}, {1, 5}, {-7, -2}, {-7, 2}, {least, greatest}, {least, least}, {greatest, greatest}, {least, 0}, {0, greatest}, {-1, greatest}, {least, greatest - 1}, {5, 6}, {-6, -5}}
}

func wrong() []Span { return []Span{{1, 0}, {greatest, least}, {0, -1}} }

func TestSP1Check(t *testing.T) {
	for _, s := range some() {
		if Check(s) != nil {
			t.Errorf("Check(%v): %v", s, Check(s))
		}
	}
	for _, s := range wrong() {
		g, gerr := Grow(s, 1)
		m, d, merr := Mid(s)
		v, n, verr := Vote([]Span{{0, 0}, s})
		if code(Check(s)) != 1 || g != (Span{}) || code(gerr) != 1 || m != 0 || d != 0 || code(merr) != 1 || v != (Span{}) || n != 0 || code(verr) != 1 {
			t.Errorf("%v: %v, %v, %v, %v", s, Check(s), gerr, merr, verr)
		}
	}
}

func TestSP1HasAndMeet(t *testing.T) {
	numbers := []int64{least, least + 1, -8, -7, -6, -2, -1, 0, 1, 2, 5, 6, 7, greatest - 1, greatest}
	for _, s := range append(some(), wrong()...) {
		for _, n := range numbers {
			if Has(s, n) != (s.Lo <= n && n <= s.Hi) {
				t.Errorf("Has(%v, %d)", s, n)
			}
		}
		for _, x := range append(some(), wrong()...) {
			both, ok := Meet(s, x)
			if !ok && both != (Span{}) || ok && both.Lo > both.Hi {
				t.Errorf("Meet(%v, %v): %v, %t", s, x, both, ok)
			}
			if Check(s) != nil || Check(x) != nil {
				if ok {
					t.Errorf("Meet(%v, %v): %v", s, x, both)
				}
				continue
			}
			for _, n := range numbers {
				if (Has(s, n) && Has(x, n)) != (ok && Has(both, n)) {
					t.Errorf("Meet(%v, %v): %v, %t at %d", s, x, both, ok, n)
				}
			}
		}
	}
	if both, ok := Meet(Span{0, 5}, Span{5, 9}); both != (Span{5, 5}) || !ok {
		t.Errorf("Meet of spans that touch: %v, %t", both, ok)
	}
	if both, ok := Meet(Span{0, 4}, Span{5, 9}); both != (Span{}) || ok {
		t.Errorf("Meet of spans beside each other: %v, %t", both, ok)
	}
}

func TestSP1Grow(t *testing.T) {
	for _, s := range some() {
		for _, by := range []int64{0, 1, 7, 1 << 62, greatest} {
			lo := new(big.Int).Sub(big.NewInt(s.Lo), big.NewInt(by))
			hi := new(big.Int).Add(big.NewInt(s.Hi), big.NewInt(by))
			want := Span{least, greatest}
			if lo.IsInt64() {
				want.Lo = lo.Int64()
			}
			if hi.IsInt64() {
				want.Hi = hi.Int64()
			}
			if got, err := Grow(s, by); got != want || err != nil {
				t.Errorf("Grow(%v, %d): %v, %v", s, by, got, err)
			}
		}
		for _, by := range []int64{-1, least} {
			if got, err := Grow(s, by); got != (Span{}) || code(err) != 1 {
				t.Errorf("Grow(%v, %d): %v, %v", s, by, got, err)
			}
		}
	}
}

func TestSP1Mid(t *testing.T) {
	for _, s := range some() {
		sum := new(big.Int).Add(big.NewInt(s.Lo), big.NewInt(s.Hi))
		mid := sum.Rsh(sum, 1)
		far := new(big.Int).Sub(big.NewInt(s.Hi), mid)
		if !far.IsInt64() {
			far = big.NewInt(greatest)
		}
		if m, d, err := Mid(s); m != mid.Int64() || d != far.Int64() || err != nil {
			t.Errorf("Mid(%v): %d, %d, %v; want %v, %v", s, m, d, err, mid, far)
		}
	}
}

func TestSP2(t *testing.T) {
	for _, c := range []struct {
		l    []Span
		want Span
		n    int
		code int
	}{
		{[]Span{{1, 5}, {4, 9}, {5, 7}}, Span{5, 5}, 3, 0},
		{[]Span{{1, 5}}, Span{1, 5}, 1, 0},
		{[]Span{{6, 9}, {1, 5}}, Span{1, 5}, 1, 0},
		{[]Span{{1, 5}, {6, 9}}, Span{1, 5}, 1, 0},
		{[]Span{{1, 5}, {1, 3}, {4, 5}}, Span{1, 3}, 2, 0},
		{[]Span{{3, 3}, {3, 3}, {3, 3}}, Span{3, 3}, 3, 0},
		{[]Span{{least, greatest}, {least, greatest}}, Span{least, greatest}, 2, 0},
		{nil, Span{}, 0, 6},
		{[]Span{}, Span{}, 0, 6},
		{make([]Span, 16), Span{}, 16, 0},
		{make([]Span, 17), Span{}, 0, 1},
		{[]Span{{2, 1}}, Span{}, 0, 1},
		{append(make([]Span, 17), Span{2, 1}), Span{}, 0, 1},
	} {
		if got, n, err := Vote(c.l); got != c.want || n != c.n || code(err) != c.code {
			t.Errorf("Vote(%v): %v, %d, %v; want %v, %d, %d", c.l, got, n, err, c.want, c.n, c.code)
		}
	}
}

// spans are up to 16 spans among small numbers, by chance.
func spans(r *rand.Rand) []Span {
	l := make([]Span, 1+r.Intn(16))
	for i := range l {
		lo := r.Int63n(30)
		l[i] = Span{lo, lo + r.Int63n(12)}
	}
	return l
}

// who are the spans that contain a number, as bits, and how many.
func who(l []Span, n int64) (int, int) {
	set, count := 0, 0
	for i, s := range l {
		if s.Lo <= n && n <= s.Hi {
			set |= 1 << i
			count++
		}
	}
	return set, count
}

func TestSP3(t *testing.T) {
	r := rand.New(rand.NewSource(14))
	for range 2000 {
		l := spans(r)
		most, first := 0, int64(0)
		for n := int64(0); n < 50; n++ {
			if _, count := who(l, n); count > most {
				most, first = count, n
			}
		}
		set, _ := who(l, first)
		last := first
		for next, _ := who(l, last+1); next == set; next, _ = who(l, last+1) {
			last++
		}
		if got, n, err := Vote(l); got != (Span{first, last}) || n != most || err != nil {
			t.Fatalf("Vote(%v): %v, %d, %v; want %d to %d, %d", l, got, n, err, first, last, most)
		}
	}
}
