package calls_test

import (
	"bytes"
	"errors"
	"fmt"
	"math"
	"strings"
	"testing"

	"fusee/api"
	. "fusee/calls"
	"fusee/host"
	"fusee/hyper"
	"fusee/leap"
	"fusee/local"
	"fusee/policy"
	"fusee/ratio"
	"fusee/slot"
	"fusee/smear"
	"fusee/span"
	"fusee/tenant"
	"fusee/zone"
)

// alike tells whether two values are the same, where lists without elements are, too.
func alike(a, b any) bool { return fmt.Sprintf("%+v", a) == fmt.Sprintf("%+v", b) }

// little are bytes with the lowest bytes of a number behind, the least significant first.
func little(b []byte, n uint64, size int) []byte {
	for i := range size {
		b = append(b, byte(n>>(8*i)))
	}
	return b
}

func le16(b []byte, n uint16) []byte { return little(b, uint64(n), 2) }

func le64(b []byte, n uint64) []byte { return little(b, uint64(n), 8) }

// code is the number of an error, 0 without one.
func code(err error) int {
	var e api.Errno
	if err == nil {
		return 0
	}
	if errors.As(err, &e) {
		return int(e)
	}
	return -1
}

// counted are so many bytes.
func counted(n int) []byte {
	b := make([]byte, n)
	for i := range b {
		b[i] = byte(i * 3)
	}
	return b
}

func good() []hyper.Call {
	return []hyper.Call{
		{}, {Kind: hyper.Read, Name: "a"}, {Kind: hyper.Go, Name: "abcdefghijkl", N: -1}, {Kind: 255, Name: strings.Repeat("x", 255), B: counted(1024), N: math.MinInt64}, {Kind: 3, Name: "\x00\xff", B: counted(1), N: math.MaxInt64}, {Kind: 2, B: counted(256)},
	}
}

// written is a call, byte by byte.
func written(c hyper.Call) []byte {
	b := append([]byte{'?', byte(c.Kind), byte(len(c.Name))}, c.Name...)
	b = le64(b, uint64(c.N))
	return append(le16(b, uint16(len(c.B))), c.B...)
}

func sameCall(a, b hyper.Call) bool {
	return a.Kind == b.Kind && a.Name == b.Name && a.N == b.N && bytes.Equal(a.B, b.B)
}

func TestCL1Calls(t *testing.T) {
	if b, err := Encode(hyper.Call{Name: "a"}); !bytes.Equal(b, append([]byte{0x3f, 0, 1, 0x61}, make([]byte, 10)...)) || err != nil {
		t.Errorf("Encode: %x, %v", b, err)
	}
	for _, c := range good() {
		b, err := Encode(c)
		if !bytes.Equal(b, written(c)) || err != nil {
			t.Errorf("Encode(%v): %x, %v", c, b, err)
		}
		if got, err := Decode(b); !sameCall(got, c) || err != nil {
			t.Errorf("Decode: %v, %v", got, err)
		}
		for n := range min(len(b), 300) {
			if got, err := Decode(b[:n]); !alike(got, hyper.Call{}) || code(err) != 3 {
				t.Fatalf("Decode of %d bytes: %v, %v", n, got, err)
			}
		}
		for _, other := range [][]byte{append(bytes.Clone(b), 0), append([]byte{'!'}, b[1:]...), append([]byte{0}, b...)} {
			if got, err := Decode(other); !alike(got, hyper.Call{}) || code(err) != 3 {
				t.Errorf("Decode(%x): %v, %v", other, got, err)
			}
		}
	}
	for _, c := range []hyper.Call{{Kind: -1}, {Kind: 256}, {Kind: math.MinInt}, {Name: strings.Repeat("x", 256)}, {B: counted(1025)}, {B: counted(65536)}} {
		if b, err := Encode(c); len(b) != 0 || code(err) != 1 {
			t.Errorf("Encode of %d, %d, %d: %x, %v", c.Kind, len(c.Name), len(c.B), b, err)
		}
	}
	if got, err := Decode(written(hyper.Call{B: counted(1025)})); !alike(got, hyper.Call{}) || code(err) != 3 {
		t.Errorf("Decode of too many bytes: %v", err)
	}
}

func answers() []hyper.Answer {
	return []hyper.Answer{
		{}, {Code: 13}, {Code: 65535}, {R: tenant.Reading{Value: 1, Bound: 2, Raised: 3, Host: 4}, W: local.Wall{Day: 5, Second: 6}}, {Code: 258, R: tenant.Reading{Value: -1, Bound: math.MaxInt64, Raised: math.MinInt64, Host: -4}, W: local.Wall{Day: math.MinInt64, Second: math.MaxInt64}},
	}
}

func TestCL1Answers(t *testing.T) {
	for _, a := range answers() {
		want := le16([]byte{'!'}, uint16(a.Code))
		for _, n := range []int64{a.R.Value, a.R.Bound, a.R.Raised, a.R.Host, a.W.Day, a.W.Second} {
			want = le64(want, uint64(n))
		}
		b, err := Tell(a)
		if !bytes.Equal(b, want) || err != nil {
			t.Errorf("Tell(%v): %x, %v", a, b, err)
		}
		if got, err := Hear(b); got != a || err != nil {
			t.Errorf("Hear: %v, %v", got, err)
		}
		for n := range b {
			if got, err := Hear(b[:n]); got != (hyper.Answer{}) || code(err) != 3 {
				t.Errorf("Hear of %d bytes: %v, %v", n, got, err)
			}
		}
		for _, other := range [][]byte{append(bytes.Clone(b), 0), append([]byte{'?'}, b[1:]...)} {
			if got, err := Hear(other); got != (hyper.Answer{}) || code(err) != 3 {
				t.Errorf("Hear(%x): %v, %v", other, got, err)
			}
		}
	}
	for _, n := range []int{-1, 65536, math.MinInt, math.MaxInt} {
		if b, err := Tell(hyper.Answer{Code: n}); len(b) != 0 || code(err) != 1 {
			t.Errorf("Tell of %d: %x, %v", n, b, err)
		}
	}
}

func TestCL1OwnMemory(t *testing.T) {
	room := append(make([]byte, 0, 64), counted(5)...)
	b, _ := Encode(hyper.Call{Name: "a", B: room})
	c, _ := Decode(b)
	want := bytes.Clone(b)
	c.B[0] = 77
	c.B = append(c.B, 1)
	room[1] = 99
	if !bytes.Equal(b, want) {
		t.Error("memory is shared")
	}
}

// running is a host with the tenant "b", at 1000 seconds.
func running(t *testing.T) hyper.Host {
	t.Helper()
	r := hyper.Rule{Clock: host.Rule{Plain: ratio.Factor{Mult: 1 << 31, Shift: 31}, Most: 1 << 40}, Margin: 500, Cap: 1 << 40, Keep: 1 << 40, Round: slot.Round{Steps: 100, L: []string{"b", "d"}}}
	h, err := hyper.New(0, r)
	if err != nil {
		t.Fatal(err)
	}
	table, _ := leap.Encode(leap.Table{Last: 50000})
	h, err = hyper.Learn(h, table)
	if err != nil {
		t.Fatal(err)
	}
	p := policy.Usual()
	p.Smear = smear.Smear{Kind: smear.Linear, After: 5}
	p.Zone.L = []zone.Rule{{At: 1, Off: 2, Name: "z"}}
	h, err = hyper.Create(h, tenant.Tenant{Name: "b", P: p})
	if err != nil {
		t.Fatal(err)
	}
	h, err = hyper.Hear(h, 0, span.Span{Lo: 1000000000000, Hi: 1000000000000})
	if err != nil {
		t.Fatal(err)
	}
	return h
}

func TestCL2Serve(t *testing.T) {
	h := running(t)
	for _, c := range []hyper.Call{{Kind: hyper.Read, Name: "b"}, {Kind: hyper.Wall, Name: "b"}, {Kind: hyper.Quantum, Name: "b", N: 10}, {Kind: hyper.Stop, Name: "b"}, {Kind: hyper.Go, Name: "b"}, {Kind: 77, Name: "b"}, {Kind: hyper.Read, Name: "x"}, {Kind: hyper.Policy, Name: "b", B: []byte("nonsense")}} {
		want, a := hyper.Do(h, c)
		if a.Code == 0 {
			want = hyper.Settle(want)
		}
		due, _ := Tell(a)
		got, b := Serve(h, written(c))
		if !alike(got, want) || !bytes.Equal(b, due) {
			t.Errorf("Serve(%v): %x, want %x", c, b, due)
		}
	}
	for _, wrong := range [][]byte{nil, []byte("?"), []byte("nonsense"), append(written(hyper.Call{Name: "b"}), 0)} {
		due, _ := Tell(hyper.Answer{Code: 3})
		got, b := Serve(h, wrong)
		if !alike(got, h) || !bytes.Equal(b, due) {
			t.Errorf("Serve(%x): %x", wrong, b)
		}
		got.R.Round.L[0], got.T.L[0].T.P.Zone.L[0].At = "!", 99
		got.K.L[0].Waits[0]++
		if !alike(h, running(t)) {
			t.Fatal("memory is shared")
		}
	}
}

func TestCL2Price(t *testing.T) {
	for kind, want := range map[int]int64{hyper.Read: 1, hyper.Wall: 2, hyper.Policy: 8, hyper.Quantum: 8, hyper.Zone: 8, hyper.Stop: 8, hyper.Go: 8} {
		for n, more := range map[int]int64{0: 0, 1: 1, 63: 1, 64: 1, 65: 2, 128: 2, 129: 3, 1024: 16, 5000: 79} {
			if got := Price(hyper.Call{Kind: kind, Name: "x", B: counted(n), N: 99}); got != want+more {
				t.Errorf("Price of kind %d with %d bytes: %d", kind, n, got)
			}
		}
	}
	for _, kind := range []int{-1, 7, 255, math.MinInt, math.MaxInt} {
		if got := Price(hyper.Call{Kind: kind, B: counted(100)}); got != 0 {
			t.Errorf("Price of kind %d: %d", kind, got)
		}
	}
}

func TestCL3(t *testing.T) {
	for _, c := range good() {
		b, _ := Encode(c)
		if got, err := Decode(b); !sameCall(got, c) || err != nil {
			t.Errorf("%v became %v, %v", c, got, err)
		}
	}
	for _, a := range answers() {
		b, _ := Tell(a)
		if got, err := Hear(b); got != a || err != nil {
			t.Errorf("%v became %v, %v", a, got, err)
		}
	}
}
