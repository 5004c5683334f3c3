package hyper_test

import (
	"errors"
	"fmt"
	"math"
	"reflect"
	"testing"

	"fusee/api"
	"fusee/filter"
	"fusee/handoff"
	"fusee/host"
	. "fusee/hyper"
	"fusee/keep"
	"fusee/leap"
	"fusee/message"
	"fusee/page"
	"fusee/policy"
	"fusee/prf"
	"fusee/publish"
	"fusee/ratio"
	"fusee/servo"
	"fusee/slot"
	"fusee/smear"
	"fusee/span"
	"fusee/tenant"
	"fusee/zone"
)

const second = 1000000000

// alike tells whether two values are the same, where lists without elements are, too.
func alike(a, b any) bool { return fmt.Sprintf("%+v", a) == fmt.Sprintf("%+v", b) }

// code is the number of an error, 0 without one.
func code(err error) int {
	var e api.Errno
	if err == nil {
		return 0
	}
	if errors.As(err, &e) {
		return int(e)
	}
	return -1
}

// rule has one nanosecond a step, and slots of 1000 steps for "b" and "d".
func rule() Rule {
	return Rule{
		Clock:  host.Rule{Plain: ratio.Factor{Mult: 1 << 31, Shift: 31}, Rho: 1000, Gain: servo.Gain{P: 100, I: 10}, Limit: 1000, Most: 1 << 40},
		Margin: 5000, Cap: 1 << 40, Keep: 1 << 40, Round: slot.Round{Steps: 1000, L: []string{"b", "d", ""}},
	}
}

// table knows of all days, with two leap seconds.
func table() leap.Table { return leap.Table{Base: 10, Last: 50000, L: []int64{100, 2000}} }

// who is a new tenant, with a smear that is not Step, and a rule of its zone.
func who(name string) tenant.Tenant {
	p := policy.Usual()
	p.Smear = smear.Smear{Kind: smear.Linear, Before: 1000, After: 1000}
	p.Quantum = 10
	p.Zone.L = []zone.Rule{{At: 1, Off: 2, Name: "z"}}
	return tenant.Tenant{Name: name, Key: prf.Key{1}, P: p}
}

// must are a host's functions, without errors.
type must struct {
	t *testing.T
	h Host
}

func (m *must) host(h Host, err error) {
	m.t.Helper()
	if err != nil {
		m.t.Fatal(err)
	}
	m.h = h
}

func (m *must) pass(steps int64) { m.t.Helper(); m.host(Pass(m.h, steps)) }
func (m *must) hear(lo, hi int64) {
	m.t.Helper()
	m.host(Hear(m.h, 0, span.Span{Lo: lo, Hi: hi}))
}
func (m *must) create(x tenant.Tenant) { m.t.Helper(); m.host(Create(m.h, x)) }
func (m *must) learn() {
	m.t.Helper()
	b, err := leap.Encode(table())
	if err != nil {
		m.t.Fatal(err)
	}
	m.host(Learn(m.h, b))
}

// do asks, and wants a code.
func (m *must) do(c Call, want int) Answer {
	m.t.Helper()
	next, a := Do(m.h, c)
	if a.Code != want {
		m.t.Fatalf("%v: code %d, want %d", c, a.Code, want)
	}
	m.h = next
	return a
}

// running is host 0 with the tenants "b" and "d", at the time of 1000 seconds, up to 50 nanoseconds.
func running(t *testing.T) *must {
	t.Helper()
	h, err := New(0, rule())
	m := &must{t, h}
	m.host(h, err)
	m.learn()
	m.create(who("b"))
	m.create(who("d"))
	m.hear(1000*second-50, 1000*second+50)
	return m
}

func TestHY1New(t *testing.T) {
	for id := range 2 {
		h, err := New(id, rule())
		clock, _ := host.New(rule().Clock)
		want := Host{R: rule(), Id: id, Clock: clock, Leaps: leap.Table{Last: -50000}, T: handoff.Table{Host: id}}
		if !alike(h, want) || err != nil {
			t.Errorf("New: %v, %v", h, err)
		}
	}
	for i, change := range []func(r *Rule){
		func(r *Rule) {}, func(r *Rule) { r.Margin, r.Cap, r.Keep = 0, 1, 1 }, func(r *Rule) { r.Margin, r.Cap, r.Keep = 1<<50, 1<<50, 1<<50 },
		func(r *Rule) { r.Margin = -1 }, func(r *Rule) { r.Margin = 1<<50 + 1 }, func(r *Rule) { r.Cap = 0 }, func(r *Rule) { r.Cap = 1<<50 + 1 }, func(r *Rule) { r.Keep = 0 }, func(r *Rule) { r.Keep = 1<<50 + 1 },
		func(r *Rule) { r.Clock.Most = 0 }, func(r *Rule) { r.Clock.Plain.Mult = 0 }, func(r *Rule) { r.Round.L = nil }, func(r *Rule) { r.Round.Steps = 0 }, func(r *Rule) { *r = Rule{} },
	} {
		r := rule()
		change(&r)
		h, err := New(0, r)
		if i < 3 != (err == nil) || err != nil && (code(err) != 1 || !alike(h, Host{})) {
			t.Errorf("New with rule %d: %v, %v", i, h, err)
		}
	}
	for _, id := range []int{-1, 2, math.MinInt} {
		if h, err := New(id, rule()); !alike(h, Host{}) || code(err) != 1 {
			t.Errorf("New(%d): %v, %v", id, h, err)
		}
	}
}

func TestHY1Pass(t *testing.T) {
	m := running(t)
	before := m.h
	for _, c := range []struct {
		steps, want int64
		code        int
	}{{0, 0, 0}, {5, 5, 0}, {1 << 60, 1 << 60, 0}, {1<<60 + 1, 0, 2}, {math.MaxInt64, 0, 2}, {-1, 0, 1}, {math.MinInt64, 0, 1}} {
		want := before
		want.Counter = c.want
		if h, err := Pass(before, c.steps); !alike(h, want) || code(err) != c.code {
			t.Errorf("Pass(%d): %d, %v", c.steps, h.Counter, err)
		}
	}
	m.pass(1 << 60)
	if h, err := Pass(m.h, 1); h.Counter != 1<<60 || code(err) != 2 {
		t.Errorf("Pass beyond: %d, %v", h.Counter, err)
	}
}

func TestHY1Learn(t *testing.T) {
	m := running(t)
	x := leap.Table{Base: 3, Last: 7, L: []int64{5}}
	b, _ := leap.Encode(x)
	want := m.h
	want.Leaps = x
	if h, err := Learn(m.h, b); !alike(h, want) || err != nil {
		t.Errorf("Learn: %v, %v", h.Leaps, err)
	}
	b[9]++
	for _, c := range []struct {
		b    []byte
		code int
	}{{nil, 3}, {b, 4}} {
		if h, err := Learn(m.h, c.b); !alike(h, m.h) || code(err) != c.code {
			t.Errorf("Learn(%x): %v", c.b, err)
		}
	}
}

func TestHY2Example(t *testing.T) {
	h, err := New(0, rule())
	m := &must{t, h}
	m.host(h, err)
	m.create(who("b"))
	m.do(Call{Kind: Read, Name: "b"}, 13)
	m.pass(7)
	m.hear(95, 105)
	if !m.h.Clock.Synced || m.h.Clock.Base != 7 || m.h.Clock.Tai != 100 || m.h.Clock.Err != 5 || m.h.Epoch != 1 || m.h.Page[0] != 2 {
		t.Errorf("Hear: %v", m.h)
	}
	if !alike(m.h.F.L, []filter.Entry{{Source: 0, At: 7, S: span.Span{Lo: 88, Hi: 98}}}) {
		t.Errorf("Hear: %v", m.h.F)
	}
	if p, err := page.Read(m.h.Page); err != nil || p.Tai != 100 || p.Epoch != 1 || p.Cap != 1<<40 || p.Parts != 1000 {
		t.Errorf("the page: %v, %v", p, err)
	}
}

// heard is what Hear should do, out of the layers below.
func heard(h Host, source int, s span.Span) Host {
	now, _ := ratio.Scale(h.R.Clock.Plain, h.Counter)
	f, err := filter.Put(h.F, filter.Entry{Source: source, At: now, S: span.Span{Lo: s.Lo - now, Hi: s.Hi - now}})
	if err != nil {
		return h
	}
	h.F = f
	best, _, err := filter.Best(f, filter.Rule{Rho: h.R.Clock.Rho, Keep: h.R.Keep}, now)
	if err != nil {
		return h
	}
	clock, err := host.Sync(h.Clock, h.Counter, span.Span{Lo: best.Lo + now, Hi: best.Hi + now})
	if err != nil {
		return h
	}
	h.Clock = clock
	p, err := page.Of(clock, h.Epoch+1, h.R.Cap)
	if err != nil {
		return h
	}
	w, err := publish.All(h.Page, p)
	if err != nil {
		return h
	}
	h.Page, h.Epoch = w, h.Epoch+1
	return h
}

func TestHY2Hear(t *testing.T) {
	m := running(t)
	for i, c := range []struct {
		steps  int64
		source int
		lo, hi int64
	}{
		{0, 1, 1000*second - 10, 1000*second + 90}, {1234, 2, 1000 * second, 1001 * second}, {500, 1, 7, 8}, {0, 3, 7, 8}, {0, 4, 7, 9}, {0, 5, 6, 9}, {0, 6, 9, 9}, {1 << 41, 7, -second, second}, {9, 0, 1 - 1<<61, 1<<61 - 1},
		{0, 0, 0, 0}, {1 << 51, 3, 55, 66},
	} {
		m.pass(c.steps)
		s := span.Span{Lo: c.lo, Hi: c.hi}
		want := heard(m.h, c.source, s)
		got, err := Hear(m.h, c.source, s)
		if !alike(got, want) || err != nil {
			t.Fatalf("%d: %v, %v; want %v", i, got, err, want)
		}
		m.h = got
	}
	if m.h.Epoch < 3 {
		t.Errorf("only %d pages", m.h.Epoch)
	}
}

func TestHY2Parts(t *testing.T) {
	m := running(t)
	m.host(Hear(m.h, 1, span.Span{Lo: 5, Hi: 6}))
	if m.h.Epoch != 1 || len(m.h.F.L) != 2 || m.h.Clock.Tai != 1000*second {
		t.Errorf("one of two: %v", m.h)
	}
	full := running(t).h
	full.Epoch = 1 << 40
	got, err := Hear(full, 0, span.Span{Lo: 1000 * second, Hi: 1000 * second})
	if err != nil || got.Epoch != 1<<40 || got.Page != full.Page || got.Clock == full.Clock {
		t.Errorf("no more pages: %v, %v", got, err)
	}
	past := running(t).h
	past.Clock.Base = 99
	got, err = Hear(past, 0, span.Span{Lo: 1000 * second, Hi: 1000 * second})
	if err != nil || got.Epoch != 1 || got.Page != past.Page || got.Clock != past.Clock || got.F.L[0].S.Lo != 1000*second {
		t.Errorf("a clock of the past: %v, %v", got, err)
	}
}

func TestHY2Errors(t *testing.T) {
	m := running(t)
	fast := rule()
	fast.Clock.Plain = ratio.Factor{Mult: math.MaxUint32}
	quick, err := New(0, fast)
	q := &must{t, quick}
	q.host(quick, err)
	q.pass(1 << 31)
	late := q.h
	late.Counter = 1 << 60
	for _, c := range []struct {
		name   string
		h      Host
		source int
		s      span.Span
		code   int
	}{
		{"no span", m.h, 0, span.Span{Lo: 1}, 1}, {"too low", m.h, 0, span.Span{Lo: -1 << 61}, 1}, {"too high", m.h, 0, span.Span{Hi: 1 << 61}, 1},
		{"no such source", m.h, 8, span.Span{}, 1}, {"no such source", m.h, -1, span.Span{}, 1}, {"no own time", late, 0, span.Span{}, 2}, {"no own time, and no span", late, 0, span.Span{Lo: 1}, 1}, {"no own time, and no source", late, 9, span.Span{}, 2},
		{"too late an own time", q.h, 0, span.Span{}, 1},
	} {
		if got, err := Hear(c.h, c.source, c.s); !alike(got, c.h) || code(err) != c.code {
			t.Errorf("%s: %v, %v", c.name, got, err)
		}
	}
}

// stored is what is recorded for a tenant, in Waits or else in Safe.
func stored(h Host, name string) (handoff.Entry, bool) {
	for _, r := range h.K.L {
		if r.Name == name {
			b := r.Waits
			if len(b) == 0 {
				b = r.Safe
			}
			e, err := keep.Open(b)
			return e, err == nil
		}
	}
	return handoff.Entry{}, false
}

func TestHY3Create(t *testing.T) {
	h, _ := New(0, rule())
	got, err := Create(h, who("b"))
	want := h
	want.T, _ = handoff.Put(h.T, who("b"))
	want.K, _ = keep.Save(h.K, want.T, 5000)
	if !alike(got, want) || err != nil || len(got.K.L[0].Waits) == 0 {
		t.Errorf("Create: %v, %v", got, err)
	}
	for i, c := range []struct {
		change func(x *tenant.Tenant)
		code   int
	}{
		{func(x *tenant.Tenant) { x.Floor.Set = true }, 1}, {func(x *tenant.Tenant) { x.Pause.On = true }, 1}, {func(x *tenant.Tenant) { x.Pause.Lost = 1 }, 1}, {func(x *tenant.Tenant) { x.Epoch = 1 }, 1}, {func(x *tenant.Tenant) { x.Pause.On, x.Pause.At = true, 5 }, 1},
		{func(x *tenant.Tenant) { x.Name = "" }, 1}, {func(x *tenant.Tenant) { x.P.Quantum = 0 }, 1}, {func(x *tenant.Tenant) { x.Floor.At = 10 }, 1}, {func(x *tenant.Tenant) {}, 8}, {func(x *tenant.Tenant) { x.Name = "a" }, 17},
		{func(x *tenant.Tenant) { x.Name = "b"; x.Epoch = 1 }, 1}, {func(x *tenant.Tenant) { x.Pause.At = 5 }, 1},
	} {
		x := who("b")
		c.change(&x)
		if h, err := Create(got, x); !alike(h, got) || code(err) != c.code {
			t.Errorf("Create %d: %v, %v", i, h, err)
		}
	}
	m := &must{t, got}
	for _, name := range []string{"d", "f", "h"} {
		m.create(who(name))
	}
	if h, err := Create(m.h, who("j")); !alike(h, m.h) || code(err) != 7 {
		t.Errorf("the fifth tenant: %v", err)
	}
	crowded := h
	for _, name := range []string{"1", "2", "3", "4", "5", "6", "7", "8"} {
		crowded.K.L = append(crowded.K.L, keep.Record{Name: name, Safe: []byte("s")})
	}
	if h, err := Create(crowded, who("b")); !alike(h, crowded) || code(err) != 7 {
		t.Errorf("no room to save: %v", err)
	}
}

func TestHY3Move(t *testing.T) {
	m := running(t)
	got, err := Move(m.h, "b")
	want := m.h
	want.T, _ = handoff.Start(m.h.T, "b")
	want.K, _ = keep.Save(m.h.K, handoff.Table{L: want.T.L[:1]}, 5000)
	if !alike(got, want) || err != nil {
		t.Errorf("Move: %v, %v", got, err)
	}
	if e, ok := stored(got, "b"); !ok || e.State != handoff.Offering || e.Epoch != 1 {
		t.Errorf("stored: %v, %t", e, ok)
	}
	for name, no := range map[string]int{"a": 6, "": 6, "b": 17} {
		if h, err := Move(got, name); !alike(h, got) || code(err) != no {
			t.Errorf("Move(%q): %v", name, err)
		}
	}
}

func TestHY3LetterAndSay(t *testing.T) {
	m := running(t)
	m.host(Move(m.h, "b"))
	said := Say(m.h)
	if len(said) != 1 {
		t.Fatalf("Say: %v", said)
	}
	other, _ := New(1, rule())
	got, replies, err := Letter(other, said[0])
	if err != nil || len(replies) != 1 || len(got.T.L) != 1 || got.T.L[0].State != handoff.Holding {
		t.Fatalf("the offer: %v, %v, %v", got, replies, err)
	}
	if e, ok := stored(got, "b"); !ok || e.State != handoff.Holding || e.Epoch != 1 {
		t.Errorf("stored: %v, %t", e, ok)
	}
	accept, _ := message.Encode(message.Message{Kind: message.Accept, Epoch: 1, Name: "b"})
	if !alike(replies[0], accept) {
		t.Errorf("the reply: %x", replies[0])
	}
	gone, replies, err := Letter(m.h, accept)
	if e, ok := stored(gone, "b"); err != nil || len(replies) != 1 || !ok || e.State != handoff.Gone {
		t.Errorf("the accept: %v, %v, %v", gone, replies, err)
	}
	settled, replies, err := Letter(got, replies[0])
	if e, ok := stored(settled, "b"); err != nil || len(replies) != 1 || !ok || e.State != handoff.Owner {
		t.Errorf("the commit: %v, %v, %v", settled, replies, err)
	}
	done, replies, err := Letter(gone, replies[0])
	if !alike(done, gone) || len(replies) != 0 || err != nil {
		t.Errorf("the done: %v, %v", replies, err)
	}
	unknown, _ := message.Encode(message.Message{Kind: message.Accept, Epoch: 1, Name: "x"})
	if same, replies, err := Letter(m.h, unknown); !alike(same, m.h) || len(replies) != 0 || err != nil {
		t.Errorf("of nobody: %v, %v", replies, err)
	}
	wrong := append([]byte(nil), accept...)
	wrong[8]++
	for _, c := range []struct {
		b    []byte
		code int
	}{{nil, 3}, {wrong, 4}, {accept[:5], 3}} {
		if same, replies, err := Letter(m.h, c.b); !alike(same, m.h) || len(replies) != 0 || code(err) != c.code {
			t.Errorf("Letter(%x): %v, %v", c.b, replies, err)
		}
	}
	crowded := other
	for _, name := range []string{"1", "2", "3", "4", "5", "6", "7", "8"} {
		crowded.K.L = append(crowded.K.L, keep.Record{Name: name, Safe: []byte("s")})
	}
	if same, replies, err := Letter(crowded, said[0]); !alike(same, crowded) || len(replies) != 0 || code(err) != 7 {
		t.Errorf("no room to save: %v, %v", replies, err)
	}
}

func TestHY3SettleAndCrash(t *testing.T) {
	m := running(t)
	settled := Settle(m.h)
	want := m.h
	want.K, _ = keep.Sync(m.h.K)
	if !alike(settled, want) {
		t.Errorf("Settle: %v", settled)
	}
	clock, _ := host.New(rule().Clock)
	for _, c := range []struct {
		h     Host
		kept  []bool
		names []string
	}{{m.h, nil, nil}, {m.h, []bool{true}, []string{"b"}}, {m.h, []bool{false, true}, []string{"d"}}, {m.h, []bool{true, true, true}, []string{"b", "d"}}, {settled, nil, []string{"b", "d"}}} {
		got := Crash(c.h, c.kept)
		var names []string
		for _, e := range got.T.L {
			names = append(names, e.T.Name)
		}
		if !alike(names, c.names) {
			t.Errorf("Crash(%v): %v", c.kept, names)
		}
		want := c.h
		want.Clock, want.Page, want.F = clock, page.Words{}, filter.Filter{}
		want.K, _ = keep.Crash(c.h.K, c.kept)
		want.T, _ = keep.Load(want.K, 0)
		if !alike(got, want) {
			t.Errorf("Crash(%v): %v", c.kept, got)
		}
	}
}

// scribble overwrites all that slices within a value hold, and have room for.
func scribble(v reflect.Value) {
	switch v.Kind() {
	case reflect.Struct:
		for i := range v.NumField() {
			scribble(v.Field(i))
		}
	case reflect.Array:
		for i := range v.Len() {
			scribble(v.Index(i))
		}
	case reflect.Slice:
		full := v.Slice(0, v.Cap())
		for i := range full.Len() {
			scribble(full.Index(i))
			full.Index(i).SetZero()
		}
	}
}

func TestHY3OwnMemory(t *testing.T) {
	m, same := running(t), running(t)
	offer := func() []byte {
		other := running(t)
		other.host(Move(other.h, "d"))
		return Say(other.h)[0]
	}
	x, p := who("f"), rule()
	results := []func() Host{
		func() Host { h, _ := New(0, p); return h },
		func() Host { h, _ := Pass(m.h, 1); return h },
		func() Host { h, _ := Pass(m.h, -1); return h },
		func() Host { h, _ := Hear(m.h, 0, span.Span{Lo: second, Hi: second}); return h },
		func() Host { h, _ := Hear(m.h, 9, span.Span{}); return h },
		func() Host { h, _ := Learn(m.h, nil); return h },
		func() Host { b, _ := leap.Encode(table()); h, _ := Learn(m.h, b); return h },
		func() Host { h, _ := Create(m.h, x); return h },
		func() Host { h, _ := Create(m.h, who("b")); return h },
		func() Host { h, _ := Move(m.h, "b"); return h },
		func() Host { h, _ := Move(m.h, "z"); return h },
		func() Host { h, _, _ := Letter(m.h, offer()); return h },
		func() Host { h, _, _ := Letter(m.h, nil); return h },
		func() Host { return Settle(m.h) },
		func() Host { return Crash(m.h, []bool{true, true}) },
		func() Host { return Crash(Settle(m.h), nil) },
		func() Host { h, _ := Do(m.h, Call{Kind: Read, Name: "b"}); return h },
		func() Host { h, _ := Do(m.h, Call{Kind: Read, Name: "d"}); return h },
		func() Host { h, _ := Do(m.h, Call{Kind: Quantum, Name: "b", N: 30}); return h },
		func() Host { h, _ := Do(m.h, Call{Kind: Stop, Name: "b"}); return h },
		func() Host {
			z, _ := zone.Encode(who("b").P.Zone)
			h, _ := Do(m.h, Call{Kind: Zone, Name: "b", B: z})
			return h
		},
		func() Host {
			b, _ := policy.Encode(who("b").P)
			h, _ := Do(m.h, Call{Kind: Policy, Name: "b", B: b})
			return h
		},
	}
	for i, f := range results {
		h := f()
		scribble(reflect.ValueOf(&h).Elem())
		if !alike(m.h, same.h) || !alike(x, who("f")) || !alike(p, rule()) {
			t.Fatalf("result %d shares memory with an argument", i)
		}
	}
}
