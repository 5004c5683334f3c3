package prf_test

import (
	"bytes"
	"math"
	"math/bits"
	"math/rand"
	"testing"

	. "fusee/prf"
)

// little are bytes with the lowest bytes of a number behind, the least significant first.
func little(b []byte, n uint64, size int) []byte {
	for i := range size {
		b = append(b, byte(n>>(8*i)))
	}
	return b
}

func le64(b []byte, n uint64) []byte { return little(b, uint64(n), 8) }

// word is the number of eight bytes, the least significant first.
func word(b []byte) uint64 {
	n := uint64(0)
	for i := range 8 {
		n |= uint64(b[i]) << (8 * i)
	}
	return n
}

// counted are the bytes 0, 1, 2 and so on.
func counted(n int) []byte {
	b := make([]byte, n)
	for i := range b {
		b[i] = byte(i)
	}
	return b
}

func key() Key { return Key(counted(16)) }

// other is a second reckoning of the sum, with the words in a list.
func other(k Key, b []byte) uint64 {
	k0, k1 := word(k[:8]), word(k[8:])
	v := [4]uint64{k0 ^ 0x736f6d6570736575, k1 ^ 0x646f72616e646f6d, k0 ^ 0x6c7967656e657261, k1 ^ 0x7465646279746573}
	mix := func(a, b, by int) {
		v[a] += v[b]
		v[b] = bits.RotateLeft64(v[b], by) ^ v[a]
	}
	rounds := func(n int) {
		for range n {
			mix(0, 1, 13)
			v[0] = bits.RotateLeft64(v[0], 32)
			mix(2, 3, 16)
			mix(0, 3, 21)
			mix(2, 1, 17)
			v[2] = bits.RotateLeft64(v[2], 32)
		}
	}
	padded := append(bytes.Clone(b), make([]byte, 7-len(b)%8)...)
	padded = append(padded, byte(len(b)))
	for i := 0; i < len(padded); i += 8 {
		m := word(padded[i:])
		v[3] ^= m
		rounds(2)
		v[0] ^= m
	}
	v[2] ^= 255
	rounds(4)
	return v[0] ^ v[1] ^ v[2] ^ v[3]
}

func TestPF1(t *testing.T) {
	for n, want := range map[int]uint64{0: 0x726fdb47dd0e0e31, 1: 0x74f839c593dc67fd, 7: 0xab0200f58b01d137, 8: 0x93f5f5799a932462, 15: 0xa129ca6149be45e5} {
		if got := Sum(key(), counted(n)); got != want {
			t.Errorf("Sum of %d bytes: %x, want %x", n, got, want)
		}
	}
	r := rand.New(rand.NewSource(28))
	for n := range 300 {
		var k Key
		r.Read(k[:])
		b := make([]byte, n)
		r.Read(b)
		before := bytes.Clone(b)
		if got := Sum(k, b); got != other(k, b) {
			t.Fatalf("Sum of %d bytes: %x, want %x", n, got, other(k, b))
		}
		if !bytes.Equal(b, before) {
			t.Fatal("the argument was changed")
		}
	}
}

func places() []int64 {
	return []int64{0, 1, -1, 2, 1000, math.MinInt64, math.MaxInt64, -987654321}
}

func TestPF2Number(t *testing.T) {
	for _, place := range places() {
		sum := other(key(), le64(nil, uint64(place)))
		if got := Number(key(), place, math.MaxUint64); got != sum {
			t.Errorf("Number of %d: %x", place, got)
		}
		for _, limit := range []uint64{0, 1, 2, 9, 1 << 40, 1 << 63, math.MaxUint64 - 1} {
			if got := Number(key(), place, limit); got != sum%(limit+1) {
				t.Errorf("Number of %d up to %d: %d", place, limit, got)
			}
		}
	}
}

func TestPF2Derive(t *testing.T) {
	for _, use := range []uint8{0, 1, 2, 255} {
		want := le64(nil, other(key(), []byte{use, 0}))
		want = le64(want, other(key(), []byte{use, 1}))
		if got := Derive(key(), use); got != Key(want) {
			t.Errorf("Derive for %d: %x, want %x", use, got, want)
		}
	}
}

func TestPF3(t *testing.T) {
	seen := map[uint64]bool{}
	for place := range int64(2000) {
		n := Number(key(), place, 9)
		if n > 9 || n != Number(key(), place, 9) {
			t.Fatalf("Number of %d: %d", place, n)
		}
		seen[n] = true
	}
	if len(seen) != 10 {
		t.Errorf("only %d numbers", len(seen))
	}
}
