package fields_test

import (
	"bytes"
	"errors"
	"math"
	"strings"
	"testing"

	"fusee/api"
	. "fusee/fields"
)

// code is the number of an error, 0 without one.
func code(err error) int {
	var e api.Errno
	if err == nil {
		return 0
	}
	if errors.As(err, &e) {
		return int(e)
	}
	return -1
}

func TestFD1Numbers(t *testing.T) {
	for _, c := range []struct {
		got  []byte
		want string
	}{
		{U16(nil, 258), "\x02\x01"},
		{U16([]byte("ab"), 0xfffe), "ab\xfe\xff"},
		{U32(nil, 0x01020304), "\x04\x03\x02\x01"},
		{U32([]byte("a"), math.MaxUint32), "a\xff\xff\xff\xff"},
		{I64(nil, 0x0102030405060708), "\x08\x07\x06\x05\x04\x03\x02\x01"},
		{I64([]byte("a"), -2), "a\xfe\xff\xff\xff\xff\xff\xff\xff"},
		{I64(nil, math.MinInt64), "\x00\x00\x00\x00\x00\x00\x00\x80"},
	} {
		if string(c.got) != c.want {
			t.Errorf("got %x, want %x", c.got, c.want)
		}
	}
}

func TestFD1Text(t *testing.T) {
	for _, n := range []int{0, 1, 2, 254, 255} {
		s := strings.Repeat("x", n)
		if got, err := Text([]byte("ab"), s); string(got) != "ab"+string([]byte{byte(n)})+s || err != nil {
			t.Errorf("Text of %d: %x, %v", n, got, err)
		}
	}
	if got, err := Text([]byte("ab"), strings.Repeat("x", 256)); len(got) != 0 || code(err) != 5 {
		t.Errorf("Text of 256: %x, %v", got, err)
	}
}

func TestFD1OwnMemory(t *testing.T) {
	room := make([]byte, 2, 64)
	text, _ := Text(room, "a")
	for _, got := range [][]byte{U16(room, 1), U32(room, 1), I64(room, 1), text} {
		for i := range got {
			got[i] = 9
		}
	}
	if !bytes.Equal(room[:64], make([]byte, 64)) {
		t.Errorf("the argument was changed: %x", room[:64])
	}
}

func TestFD2Reads(t *testing.T) {
	b := []byte("\xff\x02\x01\x04\x03\x02\xf1\xfe\xff\xff\xff\xff\xff\xff\xff\x03abc\x00rest")
	r := New(b)
	for i := range b {
		b[i] = 0
	}
	if n := r.Left(); n != len(b) {
		t.Errorf("Left: %d", n)
	}
	if v := r.U8(); v != 255 {
		t.Errorf("U8: %d", v)
	}
	if v := r.U16(); v != 258 {
		t.Errorf("U16: %d", v)
	}
	if v := r.U32(); v != 0xf1020304 {
		t.Errorf("U32: %x", v)
	}
	if v := r.I64(); v != -2 {
		t.Errorf("I64: %d", v)
	}
	if v := r.Text(); v != "abc" {
		t.Errorf("Text: %q", v)
	}
	if v := r.Text(); v != "" {
		t.Errorf("empty Text: %q", v)
	}
	if n := r.Left(); n != 4 {
		t.Errorf("Left: %d", n)
	}
	if err := r.Done(); code(err) != 3 {
		t.Errorf("Done with bytes left: %v", err)
	}
	r.U32()
	if n, err := r.Left(), r.Done(); n != 0 || err != nil {
		t.Errorf("at the end: %d, %v", n, err)
	}
}

// over lets a reader read one field, and tells whether it is zero.
func over(r *Reader, field int) bool {
	switch field {
	case 0:
		return r.U8() == 0
	case 1:
		return r.U16() == 0
	case 2:
		return r.U32() == 0
	case 3:
		return r.I64() == 0
	}
	return r.Text() == ""
}

func TestFD2NotEnough(t *testing.T) {
	short := []string{"", "\x01", "\x01\x02\x03", "\x01\x02\x03\x04\x05\x06\x07", "\x07abcdef"}
	for field, s := range short {
		r := New([]byte(s))
		if !over(r, field) {
			t.Errorf("field %d of %q is not zero", field, s)
		}
		for next := range 5 {
			if !over(r, next) || r.Left() != 0 || code(r.Done()) != 3 {
				t.Errorf("field %d behind %q: %d left, %v", next, s, r.Left(), r.Done())
			}
		}
	}
	r := New([]byte("\x05"))
	if r.U16() != 0 || r.U8() != 0 || r.Left() != 0 {
		t.Error("a byte was read behind a number that was too long")
	}
	r = New([]byte("\x00"))
	if r.Text() != "" || r.Done() != nil {
		t.Error("an empty text is enough")
	}
	if err := New(nil).Done(); err != nil {
		t.Errorf("Done of nothing: %v", err)
	}
}

func TestFD2Nil(t *testing.T) {
	var r *Reader
	for field := range 5 {
		if !over(r, field) {
			t.Errorf("field %d", field)
		}
	}
	if r.Left() != 0 || code(r.Done()) != 3 {
		t.Errorf("%d, %v", r.Left(), r.Done())
	}
}

func TestFD3(t *testing.T) {
	for _, v := range []int64{math.MinInt64, -1 << 40, -1, 0, 1, 255, 256, 65535, 65536, 1 << 31, 1<<63 - 1} {
		for _, s := range []string{"", "a", "\x00\xff", strings.Repeat("long", 60)} {
			b, err := Text(U32(U16(I64(nil, v), uint16(v)), uint32(v)), s)
			r := New(b)
			if r.I64() != v || r.U16() != uint16(v) || r.U32() != uint32(v) || r.Text() != s || r.Done() != nil || err != nil {
				t.Errorf("%d and %q are not read back from %x", v, s, b)
			}
		}
	}
}
