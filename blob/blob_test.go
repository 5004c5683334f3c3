package blob_test

import (
	"bytes"
	"errors"
	"testing"

	"fusee/api"
	. "fusee/blob"
	"fusee/crc"
)

// code is the number of an error, 0 without one.
func code(err error) int {
	var e api.Errno
	if err == nil {
		return 0
	}
	if errors.As(err, &e) {
		return int(e)
	}
	return -1
}

// content are so many bytes.
func content(n int) []byte {
	b := make([]byte, n)
	for i := range b {
		b[i] = byte(i*7 + 1)
	}
	return b
}

// built is a blob, byte by byte, with its sum.
func built(start string, b []byte) []byte {
	out := append([]byte(start), b...)
	s := crc.Sum(out)
	return append(out, byte(s), byte(s>>8), byte(s>>16), byte(s>>24))
}

func TestBL1Seal(t *testing.T) {
	if Page != 1 || Message != 2 || Config != 3 || Checkpoint != 4 || Leaps != 5 || Zone != 6 {
		t.Error("the kinds have other numbers")
	}
	for kind := uint8(1); kind <= 6; kind++ {
		for _, n := range []int{0, 1, 255, 256, 1023, 1024} {
			got, err := Seal(kind, content(n))
			want := built("tm"+string([]byte{kind, byte(n), byte(n >> 8)}), content(n))
			if !bytes.Equal(got, want) || len(got) != n+9 || err != nil {
				t.Errorf("Seal(%d) of %d: %x, %v", kind, n, got, err)
			}
		}
		if got, err := Seal(kind, content(1025)); len(got) != 0 || code(err) != 5 {
			t.Errorf("Seal(%d) of 1025: %x, %v", kind, got, err)
		}
	}
	for _, kind := range []uint8{0, 7, 255} {
		for _, n := range []int{0, 1025} {
			if got, err := Seal(kind, content(n)); len(got) != 0 || code(err) != 1 {
				t.Errorf("Seal(%d): %x, %v", kind, got, err)
			}
		}
	}
}

func TestBL1Kind(t *testing.T) {
	for _, c := range []struct {
		b    string
		kind uint8
		size int
	}{
		{"tm\x01\x00\x00", 1, 9},
		{"tm\x06\x00\x04", 6, 1033},
		{"tm\x03\x02\x01more", 3, 267},
	} {
		if k, n, err := Kind([]byte(c.b)); k != c.kind || n != c.size || err != nil {
			t.Errorf("Kind(%q): %d, %d, %v", c.b, k, n, err)
		}
	}
	for _, b := range []string{"", "t", "tm", "tm\x01\x00", "tn\x01\x00\x00", "um\x01\x00\x00", "tm\x00\x00\x00", "tm\x07\x00\x00", "tm\xff\x00\x00", "tm\x01\x01\x04", "tm\x01\xff\xff", "\x01tm\x00\x00"} {
		if k, n, err := Kind([]byte(b)); k != 0 || n != 0 || code(err) != 3 {
			t.Errorf("Kind(%q): %d, %d, %v", b, k, n, err)
		}
	}
}

func TestBL2Errors(t *testing.T) {
	plain, _ := Seal(2, content(5))
	wrongSum := bytes.Clone(plain)
	wrongSum[7]++
	for _, c := range []struct {
		name string
		kind uint8
		b    []byte
		code int
	}{
		{"right", 2, plain, 0},
		{"no such kind", 0, plain, 1},
		{"no such kind", 7, nil, 1},
		{"nothing", 2, nil, 3},
		{"another kind", 1, plain, 3},
		{"too short", 2, plain[:len(plain)-1], 3},
		{"too long", 2, append(bytes.Clone(plain), 0), 3},
		{"another mark", 2, built("tn\x02\x00\x00", nil), 3},
		{"an unknown kind", 2, built("tm\x07\x00\x00", nil), 3},
		{"too much content", 2, built("tm\x02\x01\x04", content(1025)), 3},
		{"only a head", 2, []byte("tm\x02\x00\x00"), 3},
		{"wrong sum", 2, wrongSum, 4},
		{"another kind and a wrong sum", 3, wrongSum, 3},
	} {
		got, err := Open(c.kind, c.b)
		if code(err) != c.code || c.code != 0 && len(got) != 0 {
			t.Errorf("%s: %x, %v", c.name, got, err)
		}
	}
}

func TestBL3(t *testing.T) {
	for kind := uint8(1); kind <= 6; kind++ {
		for _, n := range []int{0, 1, 5, 300, 1024} {
			b, _ := Seal(kind, content(n))
			for other := uint8(1); other <= 6; other++ {
				got, err := Open(other, b)
				if other != kind {
					if len(got) != 0 || code(err) != 3 {
						t.Errorf("kind %d opened as %d: %x, %v", kind, other, got, err)
					}
				} else if !bytes.Equal(got, content(n)) || err != nil {
					t.Errorf("Open(%d) of %d: %x, %v", kind, n, got, err)
				}
			}
			for bit := range min(len(b)*8, 200) {
				wrong := bytes.Clone(b)
				wrong[bit/8] ^= 1 << (bit % 8)
				if got, err := Open(kind, wrong); len(got) != 0 || err == nil {
					t.Errorf("bit %d: %x, %v", bit, got, err)
				}
			}
		}
	}
}

func TestBL3OwnMemory(t *testing.T) {
	inner := content(3)
	b, _ := Seal(1, inner)
	want := bytes.Clone(b)
	inner[0] = 99
	got, _ := Open(1, b)
	got = append(got[:0], 9, 9, 9, 9, 9, 9, 9)
	if !bytes.Equal(b, want) || len(got) != 7 {
		t.Error("memory is shared")
	}
}
