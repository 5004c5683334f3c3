package wide_test

import (
	"errors"
	"math"
	"math/big"
	"math/rand"
	"testing"

	"fusee/api"
	. "fusee/wide"
)

// code is the number of an error, 0 without one.
func code(err error) int {
	var e api.Errno
	if err == nil {
		return 0
	}
	if errors.As(err, &e) {
		return int(e)
	}
	return -1
}

// value is a wide number without a bound.
func value(x Wide) *big.Int {
	v := new(big.Int).Lsh(big.NewInt(x.Hi), 64)
	return v.Add(v, new(big.Int).SetUint64(x.Lo))
}

// narrow are some numbers: ends, small ones, and others by chance.
func narrow() []int64 {
	l := []int64{math.MinInt64, math.MinInt64 + 1, -1 << 32, -7, -2, -1, 0, 1, 2, 3, 7, 1 << 32, math.MaxInt64 - 1, math.MaxInt64}
	r := rand.New(rand.NewSource(2))
	for range 12 {
		l = append(l, int64(r.Uint64())>>r.Intn(64))
	}
	return l
}

// wides are some wide numbers.
func wides() []Wide {
	var l []Wide
	for _, hi := range []int64{math.MinInt64, math.MinInt64 + 1, -2, -1, 0, 1, 2, 12345678901, math.MaxInt64 - 1, math.MaxInt64} {
		for _, lo := range []uint64{0, 1, 2, 1 << 63, 1<<63 - 1, math.MaxUint64 - 1, math.MaxUint64, 987654321987654321} {
			l = append(l, Wide{hi, lo})
		}
	}
	return l
}

// same tells whether a result is as due, or its error is ErrRange where none fits into so many bits.
func same(got Wide, err error, want *big.Int) bool {
	if want.BitLen() > 127 && want.Cmp(new(big.Int).Neg(new(big.Int).Lsh(big.NewInt(1), 127))) != 0 {
		return got == Wide{} && code(err) == 2
	}
	return err == nil && value(got).Cmp(want) == 0
}

func TestWD1(t *testing.T) {
	for _, a := range narrow() {
		if value(Of(a)).Cmp(big.NewInt(a)) != 0 {
			t.Errorf("Of(%d): %v", a, Of(a))
		}
		for _, b := range narrow() {
			if got := Mul(a, b); value(got).Cmp(new(big.Int).Mul(big.NewInt(a), big.NewInt(b))) != 0 {
				t.Errorf("Mul(%d, %d): %v", a, b, got)
			}
		}
	}
	for _, x := range wides() {
		got, err := Neg(x)
		if !same(got, err, new(big.Int).Neg(value(x))) {
			t.Errorf("Neg(%v): %v, %v", x, got, err)
		}
		n, err := Int(x)
		if v := value(x); v.IsInt64() && (n != v.Int64() || err != nil) || !v.IsInt64() && (n != 0 || code(err) != 2) {
			t.Errorf("Int(%v): %d, %v", x, n, err)
		}
		for _, y := range wides() {
			got, err := Add(x, y)
			if !same(got, err, new(big.Int).Add(value(x), value(y))) {
				t.Errorf("Add(%v, %v): %v, %v", x, y, got, err)
			}
			if Cmp(x, y) != value(x).Cmp(value(y)) {
				t.Errorf("Cmp(%v, %v): %d", x, y, Cmp(x, y))
			}
		}
	}
}

func TestWD2(t *testing.T) {
	for _, x := range wides() {
		for n := -2; n < 131; n++ {
			got, err := Shr(x, n)
			if n < 0 || n > 127 {
				if got != (Wide{}) || code(err) != 1 {
					t.Errorf("Shr(%v, %d): %v, %v", x, n, got, err)
				}
			} else if !same(got, err, new(big.Int).Rsh(value(x), uint(n))) {
				t.Errorf("Shr(%v, %d): %v, %v", x, n, got, err)
			}
		}
		for _, d := range narrow() {
			q, r, err := Div(x, d)
			if d < 1 {
				if q != (Wide{}) || r != 0 || code(err) != 1 {
					t.Errorf("Div(%v, %d): %v, %d, %v", x, d, q, r, err)
				}
				continue
			}
			wq, wr := new(big.Int).DivMod(value(x), big.NewInt(d), new(big.Int))
			if !same(q, err, wq) || r != wr.Int64() {
				t.Errorf("Div(%v, %d): %v, %d, %v", x, d, q, r, err)
			}
		}
	}
	for _, n := range []int{math.MinInt, math.MaxInt} {
		if _, err := Shr(Of(1), n); code(err) != 1 {
			t.Errorf("Shr by %d: %v", n, err)
		}
	}
}

// due tells whether a number is as due, or its error is ErrRange where it is too great.
func due(got int64, err error, want *big.Int) bool {
	if !want.IsInt64() {
		return got == 0 && code(err) == 2
	}
	return got == want.Int64() && err == nil
}

func TestWD3MulDiv(t *testing.T) {
	if n, err := MulDiv(-7, 3, 2); n != -11 || err != nil {
		t.Errorf("MulDiv(-7, 3, 2): %d, %v", n, err)
	}
	for _, a := range narrow() {
		for _, b := range narrow() {
			for _, c := range narrow() {
				got, err := MulDiv(a, b, c)
				if c < 1 {
					if got != 0 || code(err) != 1 {
						t.Errorf("MulDiv(%d, %d, %d): %d, %v", a, b, c, got, err)
					}
					continue
				}
				want := new(big.Int).Mul(big.NewInt(a), big.NewInt(b))
				want, _ = want.DivMod(want, big.NewInt(c), new(big.Int))
				if !due(got, err, want) {
					t.Errorf("MulDiv(%d, %d, %d): %d, %v", a, b, c, got, err)
				}
			}
		}
	}
}

func TestWD3MulShift(t *testing.T) {
	for _, a := range narrow() {
		for _, m := range []uint32{0, 1, 3, 1 << 31, 1<<31 - 1, math.MaxUint32} {
			for s := -1; s < 34; s++ {
				got, err := MulShift(a, m, s)
				if s < 0 || s > 31 {
					if got != 0 || code(err) != 1 {
						t.Errorf("MulShift(%d, %d, %d): %d, %v", a, m, s, got, err)
					}
					continue
				}
				want := new(big.Int).Mul(big.NewInt(a), big.NewInt(int64(m)))
				if !due(got, err, want.Rsh(want, uint(s))) {
					t.Errorf("MulShift(%d, %d, %d): %d, %v", a, m, s, got, err)
				}
			}
		}
	}
}

func TestWD4(t *testing.T) {
	for _, a := range narrow() {
		for _, b := range narrow() {
			if b < 1 {
				continue
			}
			if q, r, err := Div(Mul(a, b), b); q != Of(a) || r != 0 || err != nil {
				t.Errorf("%d * %d / %d: %v, %d, %v", a, b, b, q, r, err)
			}
			q, r, err := Div(Of(a), b)
			n, nerr := Int(q)
			if err != nil || nerr != nil || r < 0 || r >= b || n*b+r != a {
				t.Errorf("%d / %d: %v, %d, %v", a, b, q, r, err)
			}
		}
	}
}
