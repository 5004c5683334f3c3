package policy_test

import (
	"bytes"
	"errors"
	"math"
	"slices"
	"testing"

	"fusee/api"
	"fusee/crc"
	"fusee/fuzz"
	. "fusee/policy"
	"fusee/smear"
	"fusee/zone"
)

// little are bytes with the lowest bytes of a number behind, the least significant first.
func little(b []byte, n uint64, size int) []byte {
	for i := range size {
		b = append(b, byte(n>>(8*i)))
	}
	return b
}

func le16(b []byte, n uint16) []byte { return little(b, uint64(n), 2) }

func le32(b []byte, n uint32) []byte { return little(b, uint64(n), 4) }

func le64(b []byte, n uint64) []byte { return little(b, uint64(n), 8) }

// code is the number of an error, 0 without one.
func code(err error) int {
	var e api.Errno
	if err == nil {
		return 0
	}
	if errors.As(err, &e) {
		return int(e)
	}
	return -1
}

// with is a policy, changed.
func with(change func(p *Policy)) Policy {
	p := Policy{smear.Smear{Kind: smear.Linear, Before: 10, After: 20}, 1000, fuzz.Fuzz{Width: 30, Cell: 40}, true,
		zone.Zone{Name: "Z", First: -5, L: []zone.Rule{{At: 1, Off: 2, Name: "one"}, {At: 3, Off: 4, Name: "two"}}}}
	change(&p)
	return p
}

// many are so many rules with the longest names.
func many(n int) []zone.Rule {
	var l []zone.Rule
	for i := range n {
		l = append(l, zone.Rule{At: int64(i), Off: 7, Name: "abcdefghijkl"})
	}
	return l
}

func good() []Policy {
	return []Policy{
		Usual(),
		with(func(p *Policy) {}),
		with(func(p *Policy) { p.Jump = false }),
		with(func(p *Policy) { p.Smear = smear.Smear{Kind: smear.Soft, Before: 43200, After: 43200} }),
		with(func(p *Policy) { p.Quantum, p.Fuzz = 1<<36, fuzz.Fuzz{Width: 1 << 40, Cell: 1 << 50} }),
		with(func(p *Policy) { p.Zone = zone.Zone{Name: "abcdefghijkl", First: 1, L: many(32)} }),
	}
}

func wrong() []Policy {
	return []Policy{
		{},
		with(func(p *Policy) { p.Smear.Kind = 3 }), with(func(p *Policy) { p.Smear.Kind = 0 }), with(func(p *Policy) { p.Smear.Before = 43201 }), with(func(p *Policy) { p.Smear.After = -1 }),
		with(func(p *Policy) { p.Quantum = 0 }), with(func(p *Policy) { p.Quantum = 1<<36 + 1 }),
		with(func(p *Policy) { p.Fuzz.Width = -1 }), with(func(p *Policy) { p.Fuzz.Cell = 0 }),
		with(func(p *Policy) { p.Zone.Name = "" }), with(func(p *Policy) { p.Zone.First = 86400 }), with(func(p *Policy) { p.Zone.L[1].At = 1 }), with(func(p *Policy) { p.Zone.L = many(33) }),
	}
}

func TestPO1Check(t *testing.T) {
	for _, p := range good() {
		if Check(p) != nil {
			t.Errorf("Check(%v): %v", p, Check(p))
		}
	}
	for _, p := range append(wrong(), with(func(p *Policy) { p.Smear.Kind = -255 }), with(func(p *Policy) { p.Smear.Kind = 257 }), with(func(p *Policy) { p.Quantum = math.MinInt64 })) {
		b, err := Encode(p)
		if code(Check(p)) != 1 || len(b) != 0 || code(err) != 1 {
			t.Errorf("%v: %v, %v", p, Check(p), err)
		}
	}
}

func TestPO1Same(t *testing.T) {
	changes := []func(p *Policy){
		func(p *Policy) {},
		func(p *Policy) { p.Smear.Kind = 9 }, func(p *Policy) { p.Smear.Before++ }, func(p *Policy) { p.Smear.After++ }, func(p *Policy) { p.Quantum++ },
		func(p *Policy) { p.Fuzz.Width++ }, func(p *Policy) { p.Fuzz.Cell++ }, func(p *Policy) { p.Jump = !p.Jump }, func(p *Policy) { p.Zone.Name = "Y" }, func(p *Policy) { p.Zone.First++ },
		func(p *Policy) { p.Zone.L = p.Zone.L[:1] }, func(p *Policy) { p.Zone.L[1].At++ }, func(p *Policy) { p.Zone.L[1].Off++ }, func(p *Policy) { p.Zone.L[0].Name = "other" }, func(p *Policy) { p.Zone.L = nil },
		func(p *Policy) { p.Quantum = math.MinInt64 }, func(p *Policy) { *p = Policy{} }, func(p *Policy) { p.Smear.Kind = 257 },
	}
	for i, a := range changes {
		for j, b := range changes {
			if Same(with(a), with(b)) != (i == j) {
				t.Errorf("change %d and change %d: %t", i, j, i != j)
			}
		}
	}
	if !Same(with(func(p *Policy) { p.Zone.L = nil }), with(func(p *Policy) { p.Zone.L = []zone.Rule{} })) {
		t.Error("no rules and no rules")
	}
}

func TestPO1Usual(t *testing.T) {
	p := Usual()
	if p.Smear != (smear.Smear{}) || p.Quantum != 1 || p.Fuzz != (fuzz.Fuzz{Width: 0, Cell: 1}) || p.Jump || p.Zone.Name != "UTC" || p.Zone.First != 0 || len(p.Zone.L) != 0 {
		t.Errorf("Usual: %v", p)
	}
}

// built is a blob, byte by byte.
func built(kind byte, inner []byte) []byte {
	b := append([]byte{'t', 'm', kind, byte(len(inner)), byte(len(inner) >> 8)}, inner...)
	return le32(b, crc.Sum(b))
}

// place is a zone as a blob, valid or not.
func place(z zone.Zone) []byte {
	b := append([]byte{byte(len(z.Name))}, z.Name...)
	b = append(le64(b, uint64(z.First)), byte(len(z.L)))
	for _, r := range z.L {
		b = le64(le64(b, uint64(r.At)), uint64(r.Off))
		b = append(append(b, byte(len(r.Name))), r.Name...)
	}
	return built(6, b)
}

// content is what a policy's blob has.
func content(p Policy, jump byte) []byte {
	b := []byte{byte(p.Smear.Kind)}
	for _, n := range []int64{p.Smear.Before, p.Smear.After, p.Quantum, p.Fuzz.Width, p.Fuzz.Cell} {
		b = le64(b, uint64(n))
	}
	z := place(p.Zone)
	return append(le16(append(b, jump), uint16(len(z))), z...)
}

func TestPO2(t *testing.T) {
	for _, p := range good() {
		jump := byte(0)
		if p.Jump {
			jump = 1
		}
		b, err := Encode(p)
		if !bytes.Equal(b, built(3, content(p, jump))) || err != nil {
			t.Errorf("Encode(%v): %x, %v", p, b, err)
		}
		if got, err := Decode(b); !Same(got, p) || err != nil {
			t.Errorf("Decode: %v, %v; want %v", got, err, p)
		}
		for _, other := range []byte{2, 255} {
			if got, err := Decode(built(3, content(p, other))); !Same(got, Policy{}) || code(err) != 3 {
				t.Errorf("Jump %d: %v, %v", other, got, err)
			}
		}
	}
	for _, p := range wrong() {
		inner := content(p, 0)
		if len(inner) > 1024 {
			continue
		}
		if got, err := Decode(built(3, inner)); !Same(got, Policy{}) || code(err) != 3 {
			t.Errorf("Decode of %v: %v, %v", p, got, err)
		}
	}
	plain := content(good()[1], 1)
	wrongSum := built(3, plain)
	wrongSum[9]++
	inside := slices.Clone(plain)
	inside[60]++
	short := slices.Clone(plain)
	short[42]--
	long := slices.Clone(plain)
	long[42]++
	for name, c := range map[string]struct {
		b    []byte
		code int
	}{
		"nothing": {nil, 3}, "another kind": {built(6, plain), 3}, "a wrong sum": {wrongSum, 4}, "no content": {built(3, nil), 3},
		"a byte less": {built(3, plain[:len(plain)-1]), 3}, "a byte more": {built(3, append(slices.Clone(plain), 0)), 3},
		"a wrong sum inside": {built(3, inside), 3}, "a zone too short": {built(3, short), 3}, "a zone too long": {built(3, long), 3}, "only numbers": {built(3, plain[:42]), 3},
	} {
		if got, err := Decode(c.b); !Same(got, Policy{}) || code(err) != c.code {
			t.Errorf("%s: %v, %v", name, got, err)
		}
	}
}

func TestPO3(t *testing.T) {
	for _, p := range good() {
		b, err := Encode(p)
		got, derr := Decode(b)
		if !Same(got, p) || err != nil || derr != nil || len(b) > 1033 {
			t.Errorf("%v: %v, %v, %v", p, got, err, derr)
		}
	}
}
