package servo_test

import (
	"errors"
	"math"
	"math/rand"
	"testing"

	"fusee/api"
	. "fusee/servo"
)

// code is the number of an error, 0 without one.
func code(err error) int {
	var e api.Errno
	if err == nil {
		return 0
	}
	if errors.As(err, &e) {
		return int(e)
	}
	return -1
}

func wrong() []Gain {
	return []Gain{{-1, 0}, {0, -1}, {1025, 0}, {0, 1025}, {math.MinInt64, 0}, {0, math.MaxInt64}}
}

func TestSV1Check(t *testing.T) {
	for _, g := range []Gain{{}, {1024, 1024}, {0, 1024}, {1024, 0}, {3, 7}} {
		for limit, no := range map[int64]int{0: 0, 1 << 20: 0, 5: 0, -1: 1, 1<<20 + 1: 1, math.MinInt64: 1, math.MaxInt64: 1} {
			if err := Check(g, limit); code(err) != no {
				t.Errorf("Check(%v, %d): %v", g, limit, err)
			}
			if s, err := Step(Servo{}, g, limit, 0); code(err) != no || s != (Servo{}) {
				t.Errorf("Step(%v, %d): %v, %v", g, limit, s, err)
			}
		}
	}
	for _, g := range wrong() {
		c, cerr := Pull(g, 1, 1)
		s, serr := Step(Servo{1, 1}, g, 5, 0)
		if code(Check(g, 0)) != 1 || c != 0 || code(cerr) != 1 || s != (Servo{}) || code(serr) != 1 {
			t.Errorf("%v: %v, %v, %v", g, Check(g, 0), cerr, serr)
		}
	}
}

func TestSV1Pull(t *testing.T) {
	for _, p := range []int64{0, 1, 2, 1023, 1024} {
		for _, i := range []int64{0, 1, 3, 1024} {
			for _, off := range []int64{0, 1, -1, 1000, -1 << 20, 1 << 20} {
				for _, sum := range []int64{0, 1, -1, 999, -1 << 20, 1 << 20} {
					want := complex(float64(p*off+i*sum), float64(i*off-p*sum))
					if got, err := Pull(Gain{p, i}, off, sum); got != want || err != nil {
						t.Errorf("Pull(%d, %d, %d, %d): %v, %v; want %v", p, i, off, sum, got, err, want)
					}
				}
			}
		}
	}
	for _, n := range []int64{1<<20 + 1, -1<<20 - 1, math.MinInt64, math.MaxInt64} {
		a, aerr := Pull(Gain{1, 1}, n, 0)
		b, berr := Pull(Gain{1, 1}, 0, n)
		if a != 0 || code(aerr) != 1 || b != 0 || code(berr) != 1 {
			t.Errorf("Pull of %d: %v, %v, %v, %v", n, a, aerr, b, berr)
		}
	}
}

// floor is a quotient, rounded down.
func floor(a, b int64) int64 {
	q := a / b
	if a%b != 0 && a < 0 {
		q--
	}
	return q
}

// stepped is a servo, reckoned in whole numbers.
func stepped(s Servo, g Gain, limit, off int64) Servo {
	clamp := func(n, m int64) int64 { return min(max(n, -m), m) }
	steps := clamp(floor(off, 1024), 1<<20)
	sum := clamp(clamp(s.Sum, 1<<20)+steps, 1<<20)
	return Servo{clamp(floor(g.P*steps+g.I*sum, 1024), limit), sum}
}

func TestSV2Step(t *testing.T) {
	if s, err := Step(Servo{}, Gain{2, 1}, 1<<20, 1024000); s != (Servo{2, 1000}) || err != nil {
		t.Errorf("Step: %v, %v", s, err)
	}
	r := rand.New(rand.NewSource(17))
	offs := []int64{0, 1, -1, 1023, 1024, -1024, -1025, 1 << 30, 1<<30 + 1024, -1 << 30, -1<<30 - 1, math.MinInt64, math.MaxInt64}
	sums := []int64{0, 5, 1 << 20, -1 << 20, 1<<20 + 1, -1<<20 - 9, math.MinInt64, math.MaxInt64}
	for _, g := range []Gain{{}, {1, 0}, {0, 1}, {1024, 1024}, {700, 3}, {2, 1}} {
		for _, limit := range []int64{0, 1, 500, 1 << 20} {
			for _, sum := range sums {
				for _, off := range append(offs, r.Int63n(1<<31)-1<<30, r.Int63n(1<<14)-1<<13) {
					s := Servo{r.Int63() - r.Int63(), sum}
					if got, err := Step(s, g, limit, off); got != stepped(s, g, limit, off) || err != nil {
						t.Fatalf("Step(%v, %v, %d, %d): %v, %v; want %v", s, g, limit, off, got, err, stepped(s, g, limit, off))
					}
				}
			}
		}
	}
}

func TestSV2Slew(t *testing.T) {
	for _, c := range [][4]int64{
		{5, 10, 5, 0}, {15, 10, 10, 5}, {-15, 10, -10, -5}, {10, 10, 10, 0}, {-10, 10, -10, 0}, {7, 0, 0, 7},
		{math.MinInt64, 0, 0, math.MinInt64}, {math.MaxInt64, math.MaxInt64, math.MaxInt64, 0}, {math.MinInt64, math.MaxInt64, -math.MaxInt64, -1},
	} {
		if a, b, err := Slew(c[0], c[1]); a != c[2] || b != c[3] || err != nil {
			t.Errorf("Slew(%d, %d): %d, %d, %v", c[0], c[1], a, b, err)
		}
	}
	for _, n := range []int64{-1, math.MinInt64} {
		if a, b, err := Slew(5, n); a != 0 || b != 0 || code(err) != 1 {
			t.Errorf("Slew(5, %d): %d, %d, %v", n, a, b, err)
		}
	}
}

func TestSV3(t *testing.T) {
	r := rand.New(rand.NewSource(18))
	for range 5000 {
		g := Gain{r.Int63n(1025), r.Int63n(1025)}
		limit := r.Int63n(1<<20 + 1)
		steps, sum := r.Int63n(1<<21)-1<<20, r.Int63n(1<<20)-1<<19
		a, aerr := Step(Servo{0, sum}, g, limit, 1024*steps)
		b, berr := Step(Servo{0, -sum}, g, limit, -1024*steps)
		if aerr != nil || berr != nil || a.Freq > limit || a.Freq < -limit || a.Freq+b.Freq > 1 || a.Freq+b.Freq < -1 {
			t.Fatalf("%v, %d, %d: %v, %v", g, limit, steps, a, b)
		}
		if z, err := Step(Servo{r.Int63n(99), 0}, g, limit, 0); z != (Servo{}) || err != nil {
			t.Fatalf("no offset: %v, %v", z, err)
		}
	}
}
