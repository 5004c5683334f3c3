package num_test

import (
	"errors"
	"math"
	"math/big"
	"math/rand"
	"testing"

	"fusee/api"
	. "fusee/num"
)

// code is the number of an error, 0 without one.
func code(err error) int {
	var e api.Errno
	if err == nil {
		return 0
	}
	if errors.As(err, &e) {
		return int(e)
	}
	return -1
}

// numbers are the ends, their neighbours, small ones, and others by chance.
func numbers() []int64 {
	l := []int64{math.MinInt64, math.MinInt64 + 1, math.MinInt64 + 2, math.MinInt64 / 2, math.MinInt64/2 - 1,
		-1 << 32, -3037000500, -1000, -7, -3, -2, -1, 0, 1, 2, 3, 5, 7, 1000, 3037000499, 3037000500, 1 << 31, 1 << 32,
		math.MaxInt64 / 2, math.MaxInt64/2 + 1, math.MaxInt64 - 1, math.MaxInt64}
	r := rand.New(rand.NewSource(1))
	for range 40 {
		l = append(l, int64(r.Uint64())>>r.Intn(64))
	}
	return l
}

// exact is a number, if it fits, and the code that is due otherwise.
func exact(n *big.Int) (int64, int) {
	if !n.IsInt64() {
		return 0, 2
	}
	return n.Int64(), 0
}

// bounded is the nearest int64.
func bounded(n *big.Int) int64 {
	if n.IsInt64() {
		return n.Int64()
	}
	if n.Sign() < 0 {
		return math.MinInt64
	}
	return math.MaxInt64
}

func TestNU1Exact(t *testing.T) {
	for _, a := range numbers() {
		for _, b := range numbers() {
			x, y := big.NewInt(a), big.NewInt(b)
			for _, c := range []struct {
				name string
				f    func(a, b int64) (int64, error)
				want *big.Int
			}{
				{"Add", Add, new(big.Int).Add(x, y)},
				{"Sub", Sub, new(big.Int).Sub(x, y)},
				{"Mul", Mul, new(big.Int).Mul(x, y)},
			} {
				want, no := exact(c.want)
				got, err := c.f(a, b)
				if got != want || code(err) != no {
					t.Fatalf("%s(%d, %d): %d, %v; want %d, %d", c.name, a, b, got, err, want, no)
				}
			}
		}
	}
}

func TestNU1Saturated(t *testing.T) {
	for _, a := range numbers() {
		for _, b := range numbers() {
			x, y := big.NewInt(a), big.NewInt(b)
			if got, want := AddSat(a, b), bounded(new(big.Int).Add(x, y)); got != want {
				t.Fatalf("AddSat(%d, %d): %d, want %d", a, b, got, want)
			}
			if got, want := SubSat(a, b), bounded(new(big.Int).Sub(x, y)); got != want {
				t.Fatalf("SubSat(%d, %d): %d, want %d", a, b, got, want)
			}
		}
		if got, want := Size(a), bounded(new(big.Int).Abs(big.NewInt(a))); got != want {
			t.Fatalf("Size(%d): %d, want %d", a, got, want)
		}
	}
}

func TestNU2DivAndCeil(t *testing.T) {
	if q, r, err := Div(-7, 2); q != -4 || r != 1 || err != nil {
		t.Errorf("Div(-7, 2): %d, %d, %v", q, r, err)
	}
	if q, err := Ceil(-7, 2); q != -3 || err != nil {
		t.Errorf("Ceil(-7, 2): %d, %v", q, err)
	}
	for _, a := range numbers() {
		for _, b := range numbers() {
			q, r, err := Div(a, b)
			c, cerr := Ceil(a, b)
			if b < 1 {
				if q != 0 || r != 0 || code(err) != 1 || c != 0 || code(cerr) != 1 {
					t.Fatalf("by %d: %d, %d, %v; %d, %v", b, q, r, err, c, cerr)
				}
				continue
			}
			// Euclid's division rounds down where the divisor is above 0.
			wq, wr := new(big.Int).DivMod(big.NewInt(a), big.NewInt(b), new(big.Int))
			if q != wq.Int64() || r != wr.Int64() || err != nil {
				t.Fatalf("Div(%d, %d): %d, %d, %v", a, b, q, r, err)
			}
			wc := new(big.Int).Set(wq)
			if wr.Sign() > 0 {
				wc.Add(wc, big.NewInt(1))
			}
			if c != wc.Int64() || cerr != nil {
				t.Fatalf("Ceil(%d, %d): %d, %v", a, b, c, cerr)
			}
		}
	}
}

func TestNU2Clamp(t *testing.T) {
	for _, c := range [][4]int64{
		{5, 1, 9, 5}, {0, 1, 9, 1}, {10, 1, 9, 9}, {1, 1, 9, 1}, {9, 1, 9, 9},
		{5, 9, 1, 9}, {20, 9, 1, 9}, {0, 9, 1, 9}, {7, 7, 7, 7}, {20, 9, 8, 9},
		{math.MaxInt64, math.MinInt64, 0, 0}, {math.MinInt64, 0, math.MaxInt64, 0},
	} {
		if got := Clamp(c[0], c[1], c[2]); got != c[3] {
			t.Errorf("Clamp(%d, %d, %d): %d, want %d", c[0], c[1], c[2], got, c[3])
		}
	}
}

func TestNU3(t *testing.T) {
	for _, a := range numbers() {
		for _, b := range numbers() {
			if s, err := Add(a, b); err == nil {
				if back, err := Sub(s, b); back != a || err != nil {
					t.Fatalf("%d + %d - %d: %d, %v", a, b, b, back, err)
				}
			}
			if q, r, err := Div(a, b); err == nil {
				if r < 0 || r >= b || q*b+r != a {
					t.Fatalf("%d = %d * %d + %d", a, q, b, r)
				}
			}
		}
	}
}
