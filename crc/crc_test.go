package crc_test

import (
	"bytes"
	"errors"
	"math/rand"
	"testing"

	"fusee/api"
	. "fusee/crc"
)

// some are bytes by chance, of several lengths.
func some() [][]byte {
	l := [][]byte{nil, {0}, {255}, {1, 2, 3, 4}, []byte("123456789")}
	r := rand.New(rand.NewSource(5))
	for n := range 70 {
		b := make([]byte, n)
		r.Read(b)
		l = append(l, b)
	}
	return l
}

// divided is the sum of bytes as the remainder of a division of polynomials: the first bit of a byte is its least one.
func divided(b []byte) uint32 {
	const poly = 0x04c11db7
	dividend := []byte{}
	for i, x := range append(bytes.Clone(b), 0, 0, 0, 0) {
		if i < 4 {
			x = ^x
		}
		for bit := range 8 {
			dividend = append(dividend, x>>bit&1)
		}
	}
	remainder, out := uint32(0), uint32(0)
	for _, bit := range dividend {
		top := remainder >> 31
		remainder = remainder<<1 | uint32(bit)
		if top == 1 {
			remainder ^= poly
		}
	}
	for bit := range 32 {
		out |= (remainder >> bit & 1) << (31 - bit)
	}
	return ^out
}

func isSum(err error) bool {
	var e api.Errno
	return errors.As(err, &e) && e == 4
}

func TestCR1Sum(t *testing.T) {
	if s := Sum([]byte("123456789")); s != 0xcbf43926 {
		t.Errorf("Sum: %x", s)
	}
	for _, b := range some() {
		if s := Sum(b); s != divided(b) {
			t.Errorf("Sum(%x): %x", b, s)
		}
		for _, a := range some() {
			want := divided(append(bytes.Clone(a), b...))
			if s := More(Sum(a), b); s != want {
				t.Errorf("More(%x): %x, want %x", b, s, want)
			}
		}
	}
}

func TestCR1Sealed(t *testing.T) {
	if got := Sealed([]byte("123456789")); !bytes.Equal(got, []byte("123456789\x26\x39\xf4\xcb")) {
		t.Errorf("Sealed: %x", got)
	}
	for _, b := range some() {
		room := append(make([]byte, 0, len(b)+8), b...)
		sealed := Sealed(room)
		if !bytes.Equal(room[:len(b)+8][len(b):], make([]byte, 8)) {
			t.Fatal("Sealed wrote into its argument's room")
		}
		got, err := Opened(sealed)
		if !bytes.Equal(got, b) || err != nil {
			t.Fatalf("Opened(Sealed(%x)): %x, %v", b, got, err)
		}
		if len(got) > 0 {
			got[0]++
			got = append(got[:cap(got)], 1)
			if !bytes.Equal(sealed, Sealed(b)) {
				t.Fatal("Opened shares memory with its argument")
			}
		}
	}
}

func TestCR1OpenedRefuses(t *testing.T) {
	for _, b := range [][]byte{nil, {}, {0}, {0, 0, 0}, {1, 2, 3, 4}, {0xff, 0xff, 0xff, 0xff}, []byte("123456789\xcb\xf4\x39\x26")} {
		if got, err := Opened(b); len(got) != 0 || !isSum(err) {
			t.Errorf("Opened(%x): %x, %v", b, got, err)
		}
	}
	if got, err := Opened(make([]byte, 4)); len(got) != 0 || err != nil {
		t.Errorf("Opened of the empty bytes' seal: %x, %v", got, err)
	}
}

func TestCR2(t *testing.T) {
	for _, b := range some() {
		for i := range len(b) {
			if More(Sum(b[:i]), b[i:]) != Sum(b) {
				t.Fatalf("piece by piece: %x at %d", b, i)
			}
		}
		sealed := Sealed(b)
		for bit := range len(sealed) * 8 {
			wrong := bytes.Clone(sealed)
			wrong[bit/8] ^= 1 << (bit % 8)
			if got, err := Opened(wrong); len(got) != 0 || !isSum(err) {
				t.Fatalf("bit %d of %x: %x, %v", bit, sealed, got, err)
			}
		}
	}
}
