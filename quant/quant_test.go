package quant_test

import (
	"errors"
	"math"
	"math/big"
	"math/rand"
	"slices"
	"testing"

	"fusee/api"
	. "fusee/quant"
)

// code is the number of an error, 0 without one.
func code(err error) int {
	var e api.Errno
	if err == nil {
		return 0
	}
	if errors.As(err, &e) {
		return int(e)
	}
	return -1
}

func times() []int64 {
	l := []int64{math.MinInt64, math.MinInt64 + 1, math.MinInt64 + 1000, -7, -5, -1, 0, 1, 4, 5, 7, math.MaxInt64 - 1000, math.MaxInt64 - 1, math.MaxInt64}
	r := rand.New(rand.NewSource(29))
	for range 50 {
		l = append(l, int64(r.Uint64())>>r.Intn(63))
	}
	slices.Sort(l)
	return l
}

func quanta() []int64 { return []int64{1, 2, 3, 5, 7, 1000, 1<<36 - 1, 1 << 36} }

// due is a multiple, and the code that is due where it is no int64.
func due(n *big.Int) (int64, int) {
	if !n.IsInt64() {
		return 0, 2
	}
	return n.Int64(), 0
}

func TestQU1(t *testing.T) {
	if d, _ := Down(-7, 5); d != -10 {
		t.Errorf("Down(-7, 5): %d", d)
	}
	if u, _ := Up(-7, 5); u != -5 {
		t.Errorf("Up(-7, 5): %d", u)
	}
	if n, _ := Place(-7, 5); n != -2 {
		t.Errorf("Place(-7, 5): %d", n)
	}
	for _, q := range quanta() {
		if Check(q) != nil {
			t.Errorf("Check(%d): %v", q, Check(q))
		}
		for _, x := range times() {
			place, left := new(big.Int).DivMod(big.NewInt(x), big.NewInt(q), new(big.Int))
			down := new(big.Int).Mul(place, big.NewInt(q))
			up := new(big.Int).Set(down)
			if left.Sign() > 0 {
				up.Add(up, big.NewInt(q))
			}
			want, no := due(down)
			if got, err := Down(x, q); got != want || code(err) != no {
				t.Errorf("Down(%d, %d): %d, %v; want %d, %d", x, q, got, err, want, no)
			}
			want, no = due(up)
			if got, err := Up(x, q); got != want || code(err) != no {
				t.Errorf("Up(%d, %d): %d, %v; want %d, %d", x, q, got, err, want, no)
			}
			if got, err := Place(x, q); got != place.Int64() || err != nil {
				t.Errorf("Place(%d, %d): %d, %v", x, q, got, err)
			}
			if Is(x, q) != (left.Sign() == 0) {
				t.Errorf("Is(%d, %d): %t", x, q, Is(x, q))
			}
		}
	}
}

func TestQU1Errors(t *testing.T) {
	for _, q := range []int64{0, -1, 1<<36 + 1, math.MinInt64, math.MaxInt64} {
		if code(Check(q)) != 1 {
			t.Errorf("Check(%d): %v", q, Check(q))
		}
		for _, x := range []int64{0, q, 5} {
			d, derr := Down(x, q)
			u, uerr := Up(x, q)
			p, perr := Place(x, q)
			if d != 0 || u != 0 || p != 0 || code(derr) != 1 || code(uerr) != 1 || code(perr) != 1 || Is(x, q) {
				t.Errorf("%d by %d: %v, %v, %v, %t", x, q, derr, uerr, perr, Is(x, q))
			}
		}
	}
}

func TestQU2(t *testing.T) {
	for _, q := range quanta() {
		lastDown, lastUp := int64(math.MinInt64), int64(math.MinInt64)
		for _, x := range times() {
			if d, err := Down(x, q); err == nil {
				if d > x || x-d >= q || !Is(d, q) || d < lastDown {
					t.Errorf("Down(%d, %d): %d behind %d", x, q, d, lastDown)
				}
				lastDown = d
			}
			if u, err := Up(x, q); err == nil {
				if u < x || !Is(u, q) || u < lastUp {
					t.Errorf("Up(%d, %d): %d behind %d", x, q, u, lastUp)
				}
				lastUp = u
			}
		}
	}
}
