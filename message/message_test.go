package message_test

import (
	"bytes"
	"errors"
	"fmt"
	"math"
	"slices"
	"testing"

	"fusee/api"
	"fusee/crc"
	"fusee/floor"
	"fusee/fuzz"
	. "fusee/message"
	"fusee/pause"
	"fusee/policy"
	"fusee/prf"
	"fusee/smear"
	"fusee/tenant"
	"fusee/zone"
)

// alike tells whether two values are the same, where lists without elements are, too.
func alike(a, b any) bool { return fmt.Sprintf("%+v", a) == fmt.Sprintf("%+v", b) }

// little are bytes with the lowest bytes of a number behind, the least significant first.
func little(b []byte, n uint64, size int) []byte {
	for i := range size {
		b = append(b, byte(n>>(8*i)))
	}
	return b
}

func le32(b []byte, n uint32) []byte { return little(b, uint64(n), 4) }

func le64(b []byte, n uint64) []byte { return little(b, uint64(n), 8) }

// code is the number of an error, 0 without one.
func code(err error) int {
	var e api.Errno
	if err == nil {
		return 0
	}
	if errors.As(err, &e) {
		return int(e)
	}
	return -1
}

// rules are so many rules with the longest names.
func rules(n int) []zone.Rule {
	var l []zone.Rule
	for i := range n {
		l = append(l, zone.Rule{At: int64(i), Off: 7, Name: "abcdefghijkl"})
	}
	return l
}

// with is a tenant, changed.
func with(change func(t *tenant.Tenant)) tenant.Tenant {
	t := tenant.Tenant{Name: "abc9", Key: prf.Key{1, 2, 15: 9}, P: policy.Policy{Smear: smear.Smear{Kind: smear.Linear, Before: 1000, After: 1000}, Quantum: 1000, Fuzz: fuzz.Fuzz{Width: 500, Cell: 7000}, Jump: true,
		Zone: zone.Zone{Name: "Z", First: 60, L: rules(2)}}, Epoch: 4}
	change(&t)
	return t
}

func good() []tenant.Tenant {
	return []tenant.Tenant{
		with(func(t *tenant.Tenant) {}),
		with(func(t *tenant.Tenant) { t.P = policy.Usual() }),
		with(func(t *tenant.Tenant) { t.Pause = pause.Pause{On: true, At: -5, Lost: 7} }),
		with(func(t *tenant.Tenant) { t.Floor = floor.Floor{Set: true, At: -7000} }),
		with(func(t *tenant.Tenant) { t.Name, t.Epoch, t.P.Zone.L = "abcdefghijkl", 1<<40, rules(16) }),
	}
}

func wrong() []tenant.Tenant {
	return []tenant.Tenant{
		{}, with(func(t *tenant.Tenant) { t.P.Zone.L = rules(17) }), with(func(t *tenant.Tenant) { t.Name = "A" }), with(func(t *tenant.Tenant) { t.P.Quantum = 0 }),
		with(func(t *tenant.Tenant) { t.Floor.At = 1000 }), with(func(t *tenant.Tenant) { t.Pause.At = 1 }), with(func(t *tenant.Tenant) { t.Epoch = -1 }),
	}
}

// packed are a tenant's bytes, with the bytes of its flags.
func packed(t tenant.Tenant, on, set byte) []byte {
	how, err := policy.Encode(t.P)
	if err != nil {
		how = nil
	}
	b := append([]byte{byte(len(t.Name))}, t.Name...)
	b = append(b, t.Key[:]...)
	b = append(le64(b, uint64(t.Epoch)), on)
	b = le64(le64(b, uint64(t.Pause.At)), uint64(t.Pause.Lost))
	b = le64(append(b, set), uint64(t.Floor.At))
	return append(b, how...)
}

// sameTenant tells whether two tenants are the same, as messages of them are.
func sameTenant(a, b tenant.Tenant) bool { return Same(Message{Tenant: a}, Message{Tenant: b}) }

func bit(b bool) byte {
	if b {
		return 1
	}
	return 0
}

func TestMS1(t *testing.T) {
	for _, x := range good() {
		on, set := bit(x.Pause.On), bit(x.Floor.Set)
		b, err := Pack(x)
		if !bytes.Equal(b, packed(x, on, set)) || err != nil {
			t.Errorf("Pack(%v): %x, %v", x, b, err)
		}
		if got, err := Unpack(b); !sameTenant(got, x) || err != nil {
			t.Errorf("Unpack: %v, %v; want %v", got, err, x)
		}
		for n := range b {
			if got, err := Unpack(b[:n]); !alike(got, tenant.Tenant{}) || code(err) != 3 {
				t.Fatalf("Unpack of %d bytes: %v, %v", n, got, err)
			}
		}
		for _, other := range [][]byte{append(slices.Clone(b), 0), packed(x, on+2, set), packed(x, on, 255)} {
			if got, err := Unpack(other); !alike(got, tenant.Tenant{}) || code(err) != 3 {
				t.Errorf("Unpack(%x): %v, %v", other, got, err)
			}
		}
	}
	for _, x := range wrong() {
		if b, err := Pack(x); len(b) != 0 || code(err) != 1 {
			t.Errorf("Pack(%v): %x, %v", x, b, err)
		}
		if got, err := Unpack(packed(x, bit(x.Pause.On), bit(x.Floor.Set))); !alike(got, tenant.Tenant{}) || code(err) != 3 {
			t.Errorf("Unpack of %v: %v, %v", x, got, err)
		}
	}
	if got, err := Unpack(nil); !alike(got, tenant.Tenant{}) || code(err) != 3 {
		t.Errorf("Unpack of nothing: %v, %v", got, err)
	}
}

func messages() []Message {
	var l []Message
	for _, x := range good() {
		l = append(l, Message{Offer, x.Epoch, x.Name, x})
	}
	for kind := uint8(Accept); kind <= Done; kind++ {
		l = append(l, Message{Kind: kind, Epoch: 1, Name: "a"}, Message{Kind: kind, Epoch: 0, Name: "0123456789az"}, Message{Kind: kind, Epoch: 1 << 40, Name: "a"})
	}
	return l
}

func wrongMessages() []Message {
	x := good()[0]
	l := []Message{
		{}, {Kind: 0, Epoch: 1, Name: "a"}, {Kind: 5, Epoch: 1, Name: "a"}, {Kind: 255, Epoch: 1, Name: "a"},
		{Offer, 5, x.Name, x}, {Offer, x.Epoch, "abc", x}, {Offer, x.Epoch, "", x}, {Kind: Offer, Epoch: 1, Name: "a"},
		{Accept, x.Epoch, x.Name, x}, {Done, x.Epoch, x.Name, tenant.Tenant{Epoch: 1}}, {Commit, 1, "a", tenant.Tenant{Key: prf.Key{15: 1}}}, {Commit, 1, "a", tenant.Tenant{P: policy.Usual()}},
	}
	for _, y := range wrong() {
		l = append(l, Message{Offer, y.Epoch, y.Name, y})
	}
	for kind := uint8(Accept); kind <= Done; kind++ {
		for _, name := range []string{"", "A", "0123456789abc", "a b"} {
			l = append(l, Message{Kind: kind, Epoch: 1, Name: name})
		}
		l = append(l, Message{Kind: kind, Epoch: -1, Name: "a"}, Message{Kind: kind, Epoch: 1<<40 + 1, Name: "a"})
	}
	return l
}

func TestMS2Same(t *testing.T) {
	if Offer != 1 || Accept != 2 || Commit != 3 || Done != 4 {
		t.Error("the kinds have other numbers")
	}
	all := append(messages(), wrongMessages()...)
	for i, a := range all {
		for j, b := range all {
			if Same(a, b) != (i == j || alike(a, b)) {
				t.Errorf("Same(%v, %v): %t", a, b, Same(a, b))
			}
		}
	}
	for _, change := range []func(m *Message){
		func(m *Message) { m.Kind++ }, func(m *Message) { m.Epoch++ }, func(m *Message) { m.Name += "x" }, func(m *Message) { m.Tenant.Name += "x" }, func(m *Message) { m.Tenant.Key[15]++ },
		func(m *Message) { m.Tenant.P.Quantum++ }, func(m *Message) { m.Tenant.Pause.Lost++ }, func(m *Message) { m.Tenant.Pause.On = true }, func(m *Message) { m.Tenant.Floor.Set = true }, func(m *Message) { m.Tenant.Epoch++ },
	} {
		m := messages()[0]
		change(&m)
		if Same(m, messages()[0]) || Same(messages()[0], m) {
			t.Errorf("%v", m)
		}
	}
}

// built is a blob of a message, valid or not.
func built(m Message) []byte {
	b := le64([]byte{m.Kind}, uint64(m.Epoch))
	b = append(append(b, byte(len(m.Name))), m.Name...)
	if m.Kind == Offer {
		b = append(b, packed(m.Tenant, bit(m.Tenant.Pause.On), bit(m.Tenant.Floor.Set))...)
	}
	return sealed(2, b)
}

func sealed(kind byte, b []byte) []byte {
	b = append([]byte{'t', 'm', kind, byte(len(b)), byte(len(b) >> 8)}, b...)
	return le32(b, crc.Sum(b))
}

func TestMS2(t *testing.T) {
	if b, err := Encode(Message{Kind: Accept, Epoch: 1, Name: "a"}); len(b) != 20 || err != nil {
		t.Errorf("Encode: %x, %v", b, err)
	}
	for _, m := range messages() {
		if Check(m) != nil {
			t.Errorf("Check(%v): %v", m, Check(m))
		}
		b, err := Encode(m)
		if !bytes.Equal(b, built(m)) || err != nil {
			t.Errorf("Encode(%v): %x, %v", m, b, err)
		}
		if got, err := Decode(b); !Same(got, m) || err != nil {
			t.Errorf("Decode: %v, %v; want %v", got, err, m)
		}
		inner := b[5 : len(b)-4]
		wrongSum := bytes.Clone(b)
		wrongSum[6]++
		for name, c := range map[string]struct {
			b    []byte
			code int
		}{
			"a byte less": {sealed(2, inner[:len(inner)-1]), 3}, "a byte more": {sealed(2, append(bytes.Clone(inner), 0)), 3}, "another kind": {sealed(3, inner), 3}, "a wrong sum": {wrongSum, 4}, "no content": {sealed(2, nil), 3},
		} {
			if got, err := Decode(c.b); !Same(got, Message{}) || code(err) != c.code {
				t.Errorf("%s: %v, %v", name, got, err)
			}
		}
	}
	for _, m := range wrongMessages() {
		b, err := Encode(m)
		if code(Check(m)) != 1 || len(b) != 0 || code(err) != 1 {
			t.Errorf("%v: %v, %x, %v", m, Check(m), b, err)
		}
		if m.Kind != Offer && !sameTenant(m.Tenant, tenant.Tenant{}) {
			continue
		}
		if got, err := Decode(built(m)); !Same(got, Message{}) || code(err) != 3 {
			t.Errorf("Decode of %v: %v, %v", m, got, err)
		}
	}
	if got, err := Decode(nil); !Same(got, Message{}) || code(err) != 3 {
		t.Errorf("Decode of nothing: %v, %v", got, err)
	}
}

func TestMS3(t *testing.T) {
	for _, epoch := range []int64{0, 1, math.MaxInt32, 1 << 40} {
		for _, x := range good() {
			x.Epoch = epoch
			p, perr := Pack(x)
			back, uerr := Unpack(p)
			m := Message{Offer, epoch, x.Name, x}
			b, eerr := Encode(m)
			got, derr := Decode(b)
			if !sameTenant(back, x) || !Same(got, m) || perr != nil || uerr != nil || eerr != nil || derr != nil || len(b) > 1033 {
				t.Errorf("%v: %v, %v, %v, %v, %v, %v", x, back, got, perr, uerr, eerr, derr)
			}
		}
	}
}
