package net_test

import (
	"errors"
	"math"
	"math/rand"
	"slices"
	"testing"

	"fusee/api"
	. "fusee/net"
)

// code is the number of an error, 0 without one.
func code(err error) int {
	var e api.Errno
	if err == nil {
		return 0
	}
	if errors.As(err, &e) {
		return int(e)
	}
	return -1
}

func letter(to int, s string) Letter { return Letter{to, []byte(s)} }

func equal(a, b Letter) bool { return a.To == b.To && string(a.B) == string(b.B) }

func isNet(n Net, l ...Letter) bool { return slices.EqualFunc(n.L, l, equal) }

func some() Net {
	return Net{[]Letter{letter(0, "a"), letter(1, "b"), letter(0, "c"), letter(1, "")}}
}

// full is a net with so many letters.
func full(n int) Net {
	var x Net
	for range n {
		x.L = append(x.L, letter(1, "x"))
	}
	return x
}

func TestNE1Check(t *testing.T) {
	for _, n := range []Net{{}, some(), full(32), {[]Letter{{1, make([]byte, 1033)}}}} {
		if Check(n) != nil {
			t.Errorf("Check: %v", Check(n))
		}
	}
	for _, n := range []Net{full(33), {[]Letter{{2, nil}}}, {[]Letter{{-1, nil}}}, {[]Letter{{0, nil}, {0, make([]byte, 1034)}}}, {[]Letter{{math.MaxInt, nil}}}, {[]Letter{{0, nil}, {0, nil}, {math.MinInt, nil}}}} {
		s, serr := Send(n, letter(0, "a"))
		k, l, kerr := Take(n, -1)
		o, oerr := Lose(n, 99)
		d, derr := Double(n, 0)
		if code(Check(n)) != 1 || code(serr) != 1 || code(kerr) != 1 || code(oerr) != 1 || code(derr) != 1 || len(s.L) != 0 || len(k.L) != 0 || len(o.L) != 0 || len(d.L) != 0 || !equal(l, Letter{}) || len(To(n, 0)) != 0 {
			t.Errorf("%v: %v, %v, %v, %v, %v", n, Check(n), serr, kerr, oerr, derr)
		}
	}
}

func TestNE1Send(t *testing.T) {
	n, err := Send(Net{}, letter(1, "abc"))
	if !isNet(n, letter(1, "abc")) || err != nil {
		t.Errorf("Send: %v, %v", n, err)
	}
	n, err = Send(some(), letter(0, "z"))
	if !isNet(n, append(some().L, letter(0, "z"))...) || err != nil {
		t.Errorf("Send: %v, %v", n, err)
	}
	for _, l := range []Letter{{2, nil}, {-1, nil}, {0, make([]byte, 1034)}} {
		for _, n := range []Net{some(), full(32)} {
			if got, err := Send(n, l); len(got.L) != 0 || code(err) != 1 {
				t.Errorf("Send of a wrong letter: %v, %v", got, err)
			}
		}
	}
	if got, err := Send(full(31), Letter{1, make([]byte, 1033)}); len(got.L) != 32 || err != nil {
		t.Errorf("Send of the last letter: %v", err)
	}
	if got, err := Send(full(32), letter(0, "")); len(got.L) != 0 || code(err) != 7 {
		t.Errorf("Send beyond: %v, %v", got, err)
	}
}

func TestNE1Places(t *testing.T) {
	n, l, err := Take(some(), 1)
	if !isNet(n, letter(0, "a"), letter(0, "c"), letter(1, "")) || !equal(l, letter(1, "b")) || err != nil {
		t.Errorf("Take: %v, %v, %v", n, l, err)
	}
	n, err = Lose(some(), 0)
	if !isNet(n, letter(1, "b"), letter(0, "c"), letter(1, "")) || err != nil {
		t.Errorf("Lose: %v, %v", n, err)
	}
	n, err = Double(some(), 2)
	if !isNet(n, append(some().L, letter(0, "c"))...) || err != nil {
		t.Errorf("Double: %v, %v", n, err)
	}
	for _, i := range []int{-1, 4, math.MinInt, math.MaxInt} {
		k, l, kerr := Take(some(), i)
		o, oerr := Lose(some(), i)
		d, derr := Double(some(), i)
		if len(k.L) != 0 || len(o.L) != 0 || len(d.L) != 0 || !equal(l, Letter{}) || code(kerr) != 6 || code(oerr) != 6 || code(derr) != 6 {
			t.Errorf("at %d: %v, %v, %v", i, kerr, oerr, derr)
		}
	}
	if got, err := Double(full(32), 3); len(got.L) != 0 || code(err) != 7 {
		t.Errorf("Double beyond: %v, %v", got, err)
	}
	if got, err := Double(full(32), 32); len(got.L) != 0 || code(err) != 6 {
		t.Errorf("Double of none beyond: %v, %v", got, err)
	}
	if got, err := Double(full(31), 30); len(got.L) != 32 || err != nil {
		t.Errorf("Double of the last one: %v", err)
	}
}

func TestNE1To(t *testing.T) {
	for host, want := range map[int][]int{0: {0, 2}, 1: {1, 3}, 2: nil, -1: nil} {
		if got := To(some(), host); !slices.Equal(got, want) {
			t.Errorf("To(%d): %v", host, got)
		}
	}
}

func TestNE1OwnMemory(t *testing.T) {
	n, l := some(), letter(0, "l")
	sent, _ := Send(n, l)
	rest, taken, _ := Take(n, 0)
	lost, _ := Lose(n, 1)
	double, _ := Double(n, 0)
	for _, x := range []Net{sent, rest, lost, double, {[]Letter{taken}}} {
		for _, letter := range x.L {
			for i := range letter.B {
				letter.B[i] = '!'
			}
		}
	}
	if !isNet(n, some().L...) || string(l.B) != "l" {
		t.Errorf("memory is shared: %v, %v", n, l)
	}
	double, _ = Double(n, 0)
	double.L[0].B[0] = '?'
	if string(double.L[4].B) != "a" {
		t.Error("both copies share memory")
	}
}

func TestNE2(t *testing.T) {
	r := rand.New(rand.NewSource(36))
	var n Net
	there := map[string]int{}
	one := letter(0, "one")
	n, _ = Send(n, one)
	n, _ = Double(n, 0)
	n, _, _ = Take(n, 0)
	if !isNet(n, one) {
		t.Errorf("one is left: %v", n)
	}
	n = Net{}
	for i := range 3000 {
		at := 0
		if len(n.L) > 0 {
			at = r.Intn(len(n.L))
		}
		switch r.Intn(4) {
		case 0:
			l := letter(i%2, string(rune('a'+r.Intn(5))))
			if next, err := Send(n, l); err == nil {
				n = next
				there[string(l.B)]++
			}
		case 1:
			if next, err := Double(n, at); err == nil {
				there[string(n.L[at].B)]++
				n = next
			}
		case 2:
			if next, err := Lose(n, at); err == nil {
				there[string(n.L[at].B)]--
				n = next
			}
		case 3:
			if next, l, err := Take(n, at); err == nil {
				there[string(l.B)]--
				n = next
			}
		}
		for s, many := range there {
			count := 0
			for _, l := range n.L {
				if string(l.B) == s {
					count++
				}
			}
			if count != many {
				t.Fatalf("%d of %q, want %d", count, s, many)
			}
		}
	}
}
