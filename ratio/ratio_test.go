package ratio_test

import (
	"errors"
	"math"
	"math/big"
	"math/rand"
	"testing"

	"fusee/api"
	. "fusee/ratio"
)

// code is the number of an error, 0 without one.
func code(err error) int {
	var e api.Errno
	if err == nil {
		return 0
	}
	if errors.As(err, &e) {
		return int(e)
	}
	return -1
}

// fitted is the factor of a fraction, found from the least shift on.
func fitted(num, den uint64) (Factor, int) {
	best, found := Factor{}, false
	for s := range 32 {
		m := new(big.Int).Lsh(new(big.Int).SetUint64(num), uint(s))
		m.Div(m, new(big.Int).SetUint64(den))
		if m.BitLen() <= 32 {
			best, found = Factor{uint32(m.Uint64()), s}, true
		}
	}
	if !found || best.Mult == 0 {
		return Factor{}, 2
	}
	return best, 0
}

func TestRA1Fit(t *testing.T) {
	for _, c := range []struct {
		num, den uint64
		want     Factor
		code     int
	}{
		{1, 3, Factor{715827882, 31}, 0},
		{3, 1, Factor{3221225472, 30}, 0},
		{1, 1, Factor{1 << 31, 31}, 0},
		{2, 1, Factor{1 << 31, 30}, 0},
		{0, 1, Factor{}, 1},
		{1, 0, Factor{}, 1},
		{1<<40 + 1, 1, Factor{}, 1},
		{1, 1<<40 + 1, Factor{}, 1},
		{math.MaxUint64, 1, Factor{}, 1},
		{1, math.MaxUint64, Factor{}, 1},
		{1 << 40, 1 << 40, Factor{1 << 31, 31}, 0},
		{math.MaxUint32, 1, Factor{math.MaxUint32, 0}, 0},
		{1 << 32, 1, Factor{}, 2},
		{1 << 40, 1 << 8, Factor{}, 2},
		{1 << 40, 1<<8 + 1, Factor{4278255360, 0}, 0},
		{1, 1 << 31, Factor{1, 31}, 0},
		{1, 1<<31 + 1, Factor{}, 2},
		{1, 1 << 40, Factor{}, 2},
	} {
		if got, err := Fit(c.num, c.den); got != c.want || code(err) != c.code {
			t.Errorf("Fit(%d, %d): %v, %v; want %v, %d", c.num, c.den, got, err, c.want, c.code)
		}
	}
	r := rand.New(rand.NewSource(3))
	for range 5000 {
		num, den := 1+r.Uint64()>>24>>r.Intn(40), 1+r.Uint64()>>24>>r.Intn(40)
		want, no := fitted(num, den)
		if got, err := Fit(num, den); got != want || code(err) != no {
			t.Fatalf("Fit(%d, %d): %v, %v; want %v, %d", num, den, got, err, want, no)
		}
	}
}

// bad are factors that are not valid.
func bad() []Factor {
	return []Factor{{}, {0, 5}, {1, -1}, {1, 32}, {1, math.MinInt}, {1, math.MaxInt}}
}

// good are some valid factors.
func good() []Factor {
	return []Factor{{1, 0}, {1, 31}, {math.MaxUint32, 0}, {math.MaxUint32, 31}, {1 << 31, 31}, {715827882, 31}, {7, 2}}
}

func TestRA1Check(t *testing.T) {
	for _, f := range bad() {
		if err := Check(f); code(err) != 1 {
			t.Errorf("Check(%v): %v", f, err)
		}
	}
	for _, f := range good() {
		if err := Check(f); err != nil {
			t.Errorf("Check(%v): %v", f, err)
		}
	}
}

func TestRA2ScaleAndOff(t *testing.T) {
	numbers := []int64{math.MinInt64, -1 << 40, -7, -1, 0, 1, 7, 1000, 1 << 33, math.MaxInt64 - 2, math.MaxInt64 - 1, math.MaxInt64}
	for _, f := range bad() {
		for _, n := range numbers {
			if got, err := Scale(f, n); got != 0 || code(err) != 1 {
				t.Errorf("Scale(%v, %d): %d, %v", f, n, got, err)
			}
			if got, err := Off(f, n); got != 0 || code(err) != 1 {
				t.Errorf("Off(%v, %d): %d, %v", f, n, got, err)
			}
		}
	}
	for _, f := range good() {
		for _, n := range numbers {
			want := new(big.Int).Mul(big.NewInt(n), big.NewInt(int64(f.Mult)))
			want.Rsh(want, uint(f.Shift))
			got, err := Scale(f, n)
			if want.IsInt64() && (got != want.Int64() || err != nil) || !want.IsInt64() && (got != 0 || code(err) != 2) {
				t.Errorf("Scale(%v, %d): %d, %v; want %v", f, n, got, err, want)
			}
			want = new(big.Int).Rsh(big.NewInt(n), uint(f.Shift))
			want.Add(want, big.NewInt(2))
			got, err = Off(f, n)
			switch {
			case n < 0:
				if got != 0 || code(err) != 1 {
					t.Errorf("Off(%v, %d): %d, %v", f, n, got, err)
				}
			case want.IsInt64():
				if got != want.Int64() || err != nil {
					t.Errorf("Off(%v, %d): %d, %v", f, n, got, err)
				}
			case got != 0 || code(err) != 2:
				t.Errorf("Off(%v, %d): %d, %v", f, n, got, err)
			}
		}
	}
}

func TestRA2Adjust(t *testing.T) {
	for _, f := range bad() {
		if got, err := Adjust(f, 1); got != (Factor{}) || code(err) != 1 {
			t.Errorf("Adjust(%v, 1): %v, %v", f, got, err)
		}
	}
	parts := []int64{math.MinInt64, -1<<30 - 1, -1 << 30, -1<<30 + 1, -1 << 20, -1, 0, 1, 1 << 20, 1<<30 - 1, 1 << 30, 1<<30 + 1, math.MaxInt64}
	for _, f := range good() {
		for _, p := range parts {
			clamped := min(max(p, -1<<30), 1<<30)
			want := new(big.Int).Mul(big.NewInt(int64(f.Mult)), big.NewInt(1<<30+clamped))
			want.Rsh(want, 30)
			got, err := Adjust(f, p)
			if want.Sign() < 1 || want.BitLen() > 32 {
				if got != (Factor{}) || code(err) != 2 {
					t.Errorf("Adjust(%v, %d): %v, %v", f, p, got, err)
				}
			} else if got != (Factor{uint32(want.Uint64()), f.Shift}) || err != nil {
				t.Errorf("Adjust(%v, %d): %v, %v; want %v", f, p, got, err, want)
			}
		}
	}
}

func TestRA3(t *testing.T) {
	r := rand.New(rand.NewSource(4))
	for range 5000 {
		num, den := 1+r.Uint64()>>24>>r.Intn(40), 1+r.Uint64()>>24>>r.Intn(40)
		n := int64(r.Uint64()>>1) >> r.Intn(63)
		f, err := Fit(num, den)
		if err != nil {
			continue
		}
		got, err := Scale(f, n)
		off, oerr := Off(f, n)
		if err != nil || oerr != nil {
			continue
		}
		exact := new(big.Int).Mul(big.NewInt(n), new(big.Int).SetUint64(num))
		exact.Div(exact, new(big.Int).SetUint64(den))
		less := exact.Sub(exact, big.NewInt(got))
		if less.Sign() < 0 || less.Cmp(big.NewInt(off)) > 0 {
			t.Fatalf("%d times %d / %d: less by %v, off %d", n, num, den, less, off)
		}
	}
}
