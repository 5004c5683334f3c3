package drift_test

import (
	"errors"
	"math"
	"math/big"
	"math/rand"
	"testing"

	"fusee/api"
	. "fusee/drift"
)

const greatest = math.MaxInt64

// code is the number of an error, 0 without one.
func code(err error) int {
	var e api.Errno
	if err == nil {
		return 0
	}
	if errors.As(err, &e) {
		return int(e)
	}
	return -1
}

// grown is what Grow should be.
func grown(err, rho, gone int64) int64 {
	p := new(big.Int).Mul(big.NewInt(rho), big.NewInt(gone))
	p.Add(p, big.NewInt(1<<30-1))
	p.Rsh(p, 30)
	p.Add(p, big.NewInt(err))
	if !p.IsInt64() {
		return greatest
	}
	return p.Int64()
}

func numbers() []int64 {
	l := []int64{0, 1, 5, 977, 1 << 30, 1<<30 + 1, 1 << 40, 1 << 61, greatest - 1<<33, greatest - 1, greatest}
	r := rand.New(rand.NewSource(19))
	for range 20 {
		l = append(l, r.Int63()>>r.Intn(62))
	}
	return l
}

func rhos() []int64 { return []int64{0, 1, 2, 1023, 1 << 20, 1<<20 + 1, 1<<21 - 1, 1 << 21} }

func TestDR1Grow(t *testing.T) {
	if n, err := Grow(5, 1<<20, 1000000); n != 982 || err != nil {
		t.Errorf("Grow: %d, %v", n, err)
	}
	for _, e := range numbers() {
		for _, rho := range rhos() {
			for _, gone := range numbers() {
				if n, err := Grow(e, rho, gone); n != grown(e, rho, gone) || err != nil {
					t.Fatalf("Grow(%d, %d, %d): %d, %v", e, rho, gone, n, err)
				}
			}
		}
	}
}

func TestDR1Until(t *testing.T) {
	for _, e := range numbers() {
		for _, rho := range rhos() {
			for _, most := range numbers() {
				n, err := Until(e, rho, most)
				if e > most {
					if n != 0 || code(err) != 10 {
						t.Fatalf("Until(%d, %d, %d): %d, %v", e, rho, most, n, err)
					}
					continue
				}
				if err != nil || n < 0 || grown(e, rho, n) > most || n < greatest && grown(e, rho, n+1) <= most {
					t.Fatalf("Until(%d, %d, %d): %d, %v", e, rho, most, n, err)
				}
			}
		}
	}
	for _, c := range [][4]int64{{5, 0, 5, greatest}, {5, 1 << 20, 5, 0}, {5, 1 << 20, 6, 1024}, {greatest, 1 << 21, greatest, greatest}, {0, 1, greatest, greatest}} {
		if n, err := Until(c[0], c[1], c[2]); n != c[3] || err != nil {
			t.Errorf("Until(%d, %d, %d): %d, %v", c[0], c[1], c[2], n, err)
		}
	}
}

func TestDR1Errors(t *testing.T) {
	for _, c := range [][3]int64{{-1, 0, 0}, {0, -1, 0}, {0, 0, -1}, {0, 1<<21 + 1, 0}, {math.MinInt64, 0, 0}, {0, math.MinInt64, 0}, {0, 0, math.MinInt64}, {9, greatest, 0}, {5, 1<<21 + 1, 4}} {
		g, gerr := Grow(c[0], c[1], c[2])
		u, uerr := Until(c[0], c[1], c[2])
		if g != 0 || u != 0 || code(gerr) != 1 || code(uerr) != 1 {
			t.Errorf("%v: %d, %v, %d, %v", c, g, gerr, u, uerr)
		}
	}
}

func TestDR1Both(t *testing.T) {
	for _, c := range [][2]int64{{0, 0}, {1, 2}, {1 << 20, 1 << 20}, {0, 1 << 20}} {
		if n, err := Both(c[0], c[1]); n != c[0]+c[1] || err != nil {
			t.Errorf("Both(%v): %d, %v", c, n, err)
		}
	}
	for _, n := range []int64{-1, 1<<20 + 1, math.MinInt64, greatest} {
		a, aerr := Both(n, 0)
		b, berr := Both(0, n)
		if a != 0 || b != 0 || code(aerr) != 1 || code(berr) != 1 {
			t.Errorf("Both with %d: %v, %v", n, aerr, berr)
		}
	}
}

func TestDR2(t *testing.T) {
	r := rand.New(rand.NewSource(20))
	for range 5000 {
		e, rho, a, b := r.Int63n(1<<40), r.Int63n(1<<21+1), r.Int63()>>2>>r.Intn(60), r.Int63()>>2>>r.Intn(60)
		first, _ := Grow(e, rho, a)
		twice, _ := Grow(first, rho, b)
		once, err := Grow(e, rho, a+b)
		if err != nil || twice < once || twice > once+1 {
			t.Fatalf("Grow(%d, %d, %d + %d): %d, %d", e, rho, a, b, twice, once)
		}
	}
}
