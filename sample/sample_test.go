package sample_test

import (
	"errors"
	"math"
	"math/big"
	"math/rand"
	"testing"

	"fusee/api"
	. "fusee/sample"
	"fusee/span"
)

const end = 1 << 62

// code is the number of an error, 0 without one.
func code(err error) int {
	var e api.Errno
	if err == nil {
		return 0
	}
	if errors.As(err, &e) {
		return int(e)
	}
	return -1
}

func good() []Sample {
	return []Sample{
		{},
		{0, 15, 16, 11, 0},
		{-5, -500, -490, 100, 1 << 40},
		{0, 0, 1 << 40, 1 << 40, 7},
		{0, 5, 5, 1 << 40, 7},
		{1 - end, end - 1, end - 1, 1 - end + 1000, 3},
		{end - 1001, 1 - end, 100 - end, end - 1, 3},
		{7, 7, 7, 7, 1},
		{end - 1, end - 1, end - 1, end - 1, 1 << 40},
	}
}

func wrong() []Sample {
	return []Sample{
		{end, end, end, end, 0}, {-end, 0, 0, 0, 0}, {0, end, end, 0, 0}, {0, -end, 0, 0, 0}, {0, 0, end, 0, 0}, {0, 0, 0, end, 0}, {math.MinInt64, math.MinInt64, math.MaxInt64, math.MaxInt64, 0},
		{0, 0, 0, 0, -1}, {0, 0, 0, 0, 1<<40 + 1},
		{1, 0, 0, 0, 0}, {0, 1, 0, 5, 0},
		{0, 0, 0, 1<<40 + 1, 0}, {0, 0, 11, 10, 0}, {5, 3, 4, 5, 0},
	}
}

func TestSA1Check(t *testing.T) {
	for _, s := range good() {
		if err := Check(s); err != nil {
			t.Errorf("Check(%v): %v", s, err)
		}
		for _, rho := range []int64{-1, 1<<20 + 1, math.MinInt64, math.MaxInt64} {
			o, oerr := Of(s, rho)
			n, nerr := Told(s, rho, s.Got-1)
			if o != (span.Span{}) || n != (span.Span{}) || code(oerr) != 1 || code(nerr) != 1 {
				t.Errorf("rho %d: %v, %v", rho, oerr, nerr)
			}
		}
	}
	for _, s := range wrong() {
		o, oerr := Of(s, 0)
		n, nerr := Told(s, 0, s.Got)
		d, derr := Delay(s)
		if code(Check(s)) != 1 || o != (span.Span{}) || n != (span.Span{}) || d != 0 || code(oerr) != 1 || code(nerr) != 1 || code(derr) != 1 {
			t.Errorf("%v: %v, %v, %v, %v", s, Check(s), oerr, nerr, derr)
		}
	}
}

// bounded is the nearest int64.
func bounded(n *big.Int) int64 {
	if n.IsInt64() {
		return n.Int64()
	}
	if n.Sign() < 0 {
		return math.MinInt64
	}
	return math.MaxInt64
}

// up is rho times a number, divided by 2^30, rounded up.
func up(rho, n int64) *big.Int {
	p := new(big.Int).Mul(big.NewInt(rho), big.NewInt(-n))
	return p.Neg(p.Rsh(p, 30))
}

func TestSA1Of(t *testing.T) {
	if s, err := Of(Sample{0, 15, 16, 11, 0}, 0); s != (span.Span{Lo: 5, Hi: 15}) || err != nil {
		t.Errorf("Of: %v, %v", s, err)
	}
	if d, err := Delay(Sample{0, 15, 16, 11, 0}); d != 10 || err != nil {
		t.Errorf("Delay: %d, %v", d, err)
	}
	for _, s := range good() {
		for _, rho := range []int64{0, 1, 1000, 1 << 20} {
			by := new(big.Int).Add(big.NewInt(s.Err), up(rho, s.Got-s.Asked))
			lo := new(big.Int).Sub(big.NewInt(s.Sent-s.Got), by)
			hi := new(big.Int).Add(big.NewInt(s.Came-s.Asked), by)
			if got, err := Of(s, rho); got != (span.Span{Lo: bounded(lo), Hi: bounded(hi)}) || err != nil {
				t.Errorf("Of(%v, %d): %v, %v; want %v to %v", s, rho, got, err, lo, hi)
			}
		}
		if d, err := Delay(s); d != (s.Got-s.Asked)-(s.Sent-s.Came) || err != nil {
			t.Errorf("Delay(%v): %d, %v", s, d, err)
		}
	}
}

func TestSA2(t *testing.T) {
	for _, s := range good() {
		for _, rho := range []int64{0, 1, 1 << 20} {
			for _, now := range []int64{s.Got, s.Got + 1, s.Got + 1<<33, end - 1, s.Got - 1, math.MinInt64, end, math.MaxInt64} {
				got, err := Told(s, rho, now)
				if now >= end || now < s.Got {
					want := 10
					if now >= end {
						want = 1
					}
					if got != (span.Span{}) || code(err) != want {
						t.Errorf("Told(%v, %d, %d): %v, %v", s, rho, now, got, err)
					}
					continue
				}
				o, _ := Of(s, rho)
				lo := big.NewInt(bounded(new(big.Int).Add(big.NewInt(o.Lo), big.NewInt(now))))
				hi := big.NewInt(bounded(new(big.Int).Add(big.NewInt(o.Hi), big.NewInt(now))))
				want := span.Span{Lo: bounded(lo.Sub(lo, up(rho, now-s.Got))), Hi: bounded(hi.Add(hi, up(rho, now-s.Got)))}
				if got != want || err != nil {
					t.Errorf("Told(%v, %d, %d): %v, %v; want %v", s, rho, now, got, err, want)
				}
			}
		}
	}
}

func TestSA3(t *testing.T) {
	r := rand.New(rand.NewSource(15))
	for range 5000 {
		// The own clock is right; the other one is ahead by so much, up to its error.
		ahead, err := r.Int63n(2000000)-1000000, r.Int63n(50)
		off := func() int64 { return r.Int63n(2*err+1) - err }
		asked := r.Int63n(1000)
		arrived := asked + r.Int63n(100)
		left := arrived + r.Int63n(100)
		got := left + r.Int63n(100)
		s := Sample{asked, arrived + ahead + off(), left + ahead + off(), got, err}
		if Check(s) != nil {
			continue
		}
		x, oerr := Of(s, 0)
		if oerr != nil || !span.Has(x, ahead) {
			t.Fatalf("%v: %v, %v does not have %d", s, x, oerr, ahead)
		}
		later := got + r.Int63n(1000)
		x, terr := Told(s, 1000, later)
		if terr != nil || !span.Has(x, later+ahead) {
			t.Fatalf("%v at %d: %v, %v", s, later, x, terr)
		}
	}
}
