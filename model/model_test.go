package model_test

import (
	"errors"
	"fmt"
	"math"
	"math/rand"
	"slices"
	"testing"

	"fusee/ahead"
	"fusee/api"
	"fusee/handoff"
	"fusee/host"
	"fusee/hyper"
	"fusee/leap"
	"fusee/local"
	. "fusee/model"
	"fusee/page"
	"fusee/policy"
	"fusee/prf"
	"fusee/ratio"
	"fusee/servo"
	"fusee/slot"
	"fusee/smear"
	"fusee/span"
	"fusee/tenant"
	"fusee/zone"
)

const second = 1000000000

// alike tells whether two values are the same, where lists without elements are, too.
func alike(a, b any) bool { return fmt.Sprintf("%+v", a) == fmt.Sprintf("%+v", b) }

// code is the number of an error, 0 without one.
func code(err error) int {
	var e api.Errno
	if err == nil {
		return 0
	}
	if errors.As(err, &e) {
		return int(e)
	}
	return -1
}

func table() leap.Table { return leap.Table{Base: 10, Last: 50000, L: []int64{0, 2000}} }

// who is a tenant with a smear that is not Step, and a rule of its zone.
func who(name string) tenant.Tenant {
	p := policy.Usual()
	p.Smear = smear.Smear{Kind: smear.Linear, Before: 1000, After: 1000}
	p.Quantum = 10
	p.Zone.L = []zone.Rule{{At: 1, Off: 2, Name: "z"}}
	return tenant.Tenant{Name: name, Key: prf.Key{1}, P: p}
}

// rules are so many rules.
func rules(n int) []zone.Rule {
	var l []zone.Rule
	for i := range n {
		l = append(l, zone.Rule{At: int64(i), Name: "z"})
	}
	return l
}

// running is host 0 with the tenants "b" and "d", at 1000 seconds.
func running(t *testing.T) hyper.Host {
	t.Helper()
	r := hyper.Rule{
		Clock:  host.Rule{Plain: ratio.Factor{Mult: 1 << 31, Shift: 31}, Rho: 1000, Gain: servo.Gain{P: 100, I: 10}, Limit: 1000, Most: 1 << 30},
		Margin: 500, Cap: 1 << 40, Keep: 1 << 40, Round: slot.Round{Steps: 100, L: []string{"b", "d", ""}},
	}
	h, err := hyper.New(0, r)
	must(t, err)
	b, err := leap.Encode(table())
	must(t, err)
	h, err = hyper.Learn(h, b)
	must(t, err)
	for _, name := range []string{"b", "d"} {
		h, err = hyper.Create(h, who(name))
		must(t, err)
	}
	h, err = hyper.Hear(h, 0, span.Span{Lo: 1000*second - 5, Hi: 1000*second + 5})
	must(t, err)
	return h
}

func must(t *testing.T, err error) {
	t.Helper()
	if err != nil {
		t.Fatal(err)
	}
}

func TestMD1Of(t *testing.T) {
	h := running(t)
	h.Counter = 77
	p, _ := page.Read(h.Page)
	tai, off, _ := ahead.Time(p, 77)
	for name, c := range map[string]struct {
		change func(h *hyper.Host)
		want   Clock
	}{
		"right": {func(h *hyper.Host) {}, Clock{0, tai, off}}, "not synced": {func(h *hyper.Host) { h.Clock.Synced = false }, Clock{Code: 13}}, "not synced, and torn": {func(h *hyper.Host) { h.Clock.Synced = false; h.Page[0]++ }, Clock{Code: 13}},
		"torn": {func(h *hyper.Host) { h.Page[0]++ }, Clock{Code: 15}}, "a wrong sum": {func(h *hyper.Host) { h.Page[4]++ }, Clock{Code: 4}}, "no page": {func(h *hyper.Host) { h.Page = page.Words{} }, Clock{Code: 4}},
		"stale": {func(h *hyper.Host) { h.Counter = 1<<40 + 1 }, Clock{Code: 14}}, "past": {func(h *hyper.Host) { h.Counter = -1 }, Clock{Code: 10}}, "too far off": {func(h *hyper.Host) { h.Clock.R.Most = off - 1 }, Clock{Code: 13}}, "just not too far off": {func(h *hyper.Host) { h.Clock.R.Most = off }, Clock{0, tai, off}},
	} {
		x := h
		c.change(&x)
		if got := Of(x); got != c.want {
			t.Errorf("%s: %v, want %v", name, got, c.want)
		}
	}
	if got := Of(hyper.Host{}); got != (Clock{Code: 13}) {
		t.Errorf("no host: %v", got)
	}
}

func TestMD1Turn(t *testing.T) {
	h := running(t)
	for step, name := range map[int64]string{0: "b", 99: "b", 100: "d", 250: "", 300: "b", 1 << 60: "d"} {
		h.Counter = step
		want, _ := slot.Who(h.R.Round, step)
		if step < 1000 && want != name {
			t.Fatalf("step %d: %q", step, want)
		}
		for _, who := range []string{"b", "d", "", "x"} {
			if Turn(h, who) != (who == want) {
				t.Errorf("Turn of %q at %d", who, step)
			}
		}
	}
	h.Counter = -1
	if Turn(h, "") || Turn(h, "b") || Turn(hyper.Host{}, "") {
		t.Error("Turn at no step")
	}
}

func TestMD1New(t *testing.T) {
	x := who("b")
	m, err := New(x)
	if !alike(m, Model{x}) || err != nil {
		t.Errorf("New: %v, %v", m, err)
	}
	m.T.P.Zone.L[0].At = 99
	if x.P.Zone.L[0].At != 1 {
		t.Error("New shares memory with its argument")
	}
	for n, no := range map[int]int{16: 0, 17: 1} {
		x.P.Zone.L = rules(n)
		if m, err := New(x); code(err) != no || no != 0 && !alike(m, Model{}) {
			t.Errorf("New with %d rules: %v, %v", n, m, err)
		}
	}
	if m, err := New(tenant.Tenant{}); !alike(m, Model{}) || code(err) != 1 {
		t.Errorf("New of nobody: %v, %v", m, err)
	}
}

func TestMD2Example(t *testing.T) {
	m, _ := New(who("b"))
	if got, a := Ask(m, Clock{Code: 13}, table(), true, hyper.Call{}); a != (hyper.Answer{Code: 13}) || !alike(got, m) {
		t.Errorf("Ask: %v, %v", got, a)
	}
}

func TestMD2(t *testing.T) {
	x := who("b")
	m, _ := New(x)
	at := Clock{0, 2000 * second, 7}
	r, next, err := tenant.Read(x, table(), at.Tai, at.Off)
	must(t, err)
	wall, err := tenant.Wall(next, r)
	must(t, err)
	p := policy.Usual()
	pb, _ := policy.Encode(p)
	z := zone.Zone{Name: "new", First: 5, L: rules(3)}
	zb, _ := zone.Encode(z)
	set := func(change func(p *policy.Policy)) tenant.Tenant {
		p := x.P
		change(&p)
		y, err := tenant.Set(x, p)
		must(t, err)
		return y
	}
	stopped, err := tenant.Stop(x, at.Tai)
	must(t, err)
	for _, c := range []struct {
		call  hyper.Call
		clock Clock
		want  tenant.Tenant
		a     hyper.Answer
	}{
		{hyper.Call{Kind: hyper.Read}, at, next, hyper.Answer{R: r}}, {hyper.Call{Kind: hyper.Wall, Name: "someone else"}, at, next, hyper.Answer{R: r, W: wall}},
		{hyper.Call{Kind: hyper.Policy, B: pb}, Clock{Code: 13}, set(func(q *policy.Policy) { *q = p }), hyper.Answer{}}, {hyper.Call{Kind: hyper.Quantum, N: 3}, Clock{Code: 13}, set(func(q *policy.Policy) { q.Quantum = 3 }), hyper.Answer{}},
		{hyper.Call{Kind: hyper.Zone, B: zb}, Clock{Code: 13}, set(func(q *policy.Policy) { q.Zone = z }), hyper.Answer{}}, {hyper.Call{Kind: hyper.Stop}, at, stopped, hyper.Answer{}},
	} {
		got, a := Ask(m, c.clock, table(), true, c.call)
		if a != c.a || !alike(got, Model{c.want}) {
			t.Errorf("%v: %v, %v; want %v, %v", c.call, got, a, c.want, c.a)
		}
		got.T.P.Zone.L = append(got.T.P.Zone.L, rules(1)...)
		got.T.P.Zone.L[0].At = 99
		if m.T.P.Zone.L[0].At != 1 {
			t.Fatal("Ask shares memory with its argument")
		}
	}
	if wall == (local.Wall{}) || r.Value != 1990*second {
		t.Errorf("%v, %v", r, wall)
	}
	held, _ := New(stopped)
	got, a := Ask(held, Clock{0, 2001 * second, 7}, table(), true, hyper.Call{Kind: hyper.Go})
	if a != (hyper.Answer{}) || got.T.Pause.Lost != second || got.T.Pause.On {
		t.Errorf("Go: %v, %v", got, a)
	}
}

func TestMD2Errors(t *testing.T) {
	m, _ := New(who("b"))
	stopped, _ := tenant.Stop(who("b"), 5)
	held, _ := New(stopped)
	at, none := Clock{0, 2000 * second, 7}, Clock{Code: 77}
	many, _ := zone.Encode(zone.Zone{Name: "z", L: rules(17)})
	p := policy.Usual()
	p.Zone.L = rules(17)
	how, _ := policy.Encode(p)
	for _, c := range []struct {
		name  string
		m     Model
		clock Clock
		l     leap.Table
		turn  bool
		call  hyper.Call
		code  int
	}{
		{"no such kind", m, none, table(), false, hyper.Call{Kind: 7}, 1}, {"no such kind", m, none, table(), false, hyper.Call{Kind: -1}, 1}, {"no such kind", m, at, table(), true, hyper.Call{Kind: math.MaxInt}, 1},
		{"not its turn", m, none, table(), false, hyper.Call{Kind: hyper.Read}, 18}, {"not its turn", m, at, table(), false, hyper.Call{Kind: hyper.Quantum}, 18},
		{"no clock to read", m, none, table(), true, hyper.Call{Kind: hyper.Read}, 77}, {"no clock for a wall", held, none, table(), true, hyper.Call{Kind: hyper.Wall}, 77}, {"no clock to stop", held, none, table(), true, hyper.Call{Kind: hyper.Stop}, 77}, {"no clock to go", m, none, table(), true, hyper.Call{Kind: hyper.Go}, 77},
		{"paused", held, at, table(), true, hyper.Call{Kind: hyper.Read}, 16}, {"unknown leap seconds", m, at, leap.Table{Last: -50000}, true, hyper.Call{Kind: hyper.Wall}, 10}, {"a wrong table", m, at, leap.Table{Base: -1}, true, hyper.Call{Kind: hyper.Read}, 1}, {"off below 0", m, Clock{0, 5, -1}, table(), true, hyper.Call{Kind: hyper.Read}, 1},
		{"stop twice", held, at, table(), true, hyper.Call{Kind: hyper.Stop}, 19}, {"go without a stop", m, at, table(), true, hyper.Call{Kind: hyper.Go}, 19}, {"go back", held, Clock{0, 4, 1}, table(), true, hyper.Call{Kind: hyper.Go}, 10}, {"stop at no time", m, Clock{0, 1 << 62, 1}, table(), true, hyper.Call{Kind: hyper.Stop}, 1},
		{"no policy", m, at, table(), true, hyper.Call{Kind: hyper.Policy}, 3}, {"no zone", m, at, table(), true, hyper.Call{Kind: hyper.Zone, B: []byte("x")}, 3}, {"no quantum", m, at, table(), true, hyper.Call{Kind: hyper.Quantum}, 1}, {"no quantum without a clock", m, none, table(), true, hyper.Call{Kind: hyper.Quantum}, 1},
		{"too many rules", m, at, table(), true, hyper.Call{Kind: hyper.Zone, B: many}, 1}, {"too many rules of a policy", m, at, table(), true, hyper.Call{Kind: hyper.Policy, B: how}, 1},
	} {
		got, a := Ask(c.m, c.clock, c.l, c.turn, c.call)
		if a != (hyper.Answer{Code: c.code}) || !alike(got, c.m) {
			t.Errorf("%s: %v, %v", c.name, got, a)
		}
		got.T.P.Zone.L[0].At = 99
		if c.m.T.P.Zone.L[0].At != 1 {
			t.Fatal("Ask shares memory with its argument")
		}
	}
}

func TestMD3(t *testing.T) {
	m, _ := New(who("b"))
	var clocks []Clock
	var asks []hyper.Call
	for i := range 20 {
		clocks = append(clocks, Clock{0, int64(1000+i) * second, 5})
		asks = append(asks, hyper.Call{Kind: []int{hyper.Read, hyper.Wall, hyper.Stop, hyper.Read, hyper.Go}[i%5]})
	}
	clocks[7].Code = 15
	var want []hyper.Answer
	x := m
	for i := range asks {
		next, a := Ask(x, clocks[i], table(), true, asks[i])
		x, want = next, append(want, a)
	}
	for _, n := range [][2]int{{20, 20}, {20, 13}, {8, 20}, {0, 20}, {20, 0}} {
		got := Play(m, table(), clocks[:n[0]], asks[:n[1]])
		if !slices.Equal(got, want[:min(n[0], n[1])]) {
			t.Errorf("Play of %v: %v", n, got)
		}
	}
	if got := Play(m, table(), nil, nil); len(got) != 0 {
		t.Errorf("Play of nothing: %v", got)
	}
}

// wanted is a call by chance.
func wanted(r *rand.Rand, name string) hyper.Call {
	c := hyper.Call{Kind: r.Intn(9) - 1, Name: name, N: r.Int63n(200)}
	p := who(name).P
	p.Fuzz.Width, p.Fuzz.Cell, p.Jump = r.Int63n(1000), 100, r.Intn(2) == 0
	p.Zone.L = rules(r.Intn(20))
	if r.Intn(3) == 0 {
		p.Smear = smear.Smear{}
	}
	switch c.Kind {
	case hyper.Policy:
		c.B, _ = policy.Encode(p)
	case hyper.Zone:
		c.B, _ = zone.Encode(p.Zone)
	}
	if r.Intn(10) == 0 {
		c.B = nil
	}
	return c
}

func TestMD4(t *testing.T) {
	codes := map[int]int{}
	for seed := range int64(20) {
		r := rand.New(rand.NewSource(seed))
		h := hyper.Settle(running(t))
		models := map[string]Model{}
		for _, name := range []string{"b", "d"} {
			models[name], _ = New(who(name))
		}
		for range 400 {
			h.Counter += r.Int63n(120)
			if r.Intn(6) == 0 {
				now := 1000*second + h.Counter
				next, err := hyper.Hear(h, 0, span.Span{Lo: now - r.Int63n(2000), Hi: now + r.Int63n(2000)})
				must(t, err)
				h = next
			}
			if r.Intn(60) == 0 {
				h.Clock = host.Drop(h.Clock)
			}
			name := []string{"b", "d"}[r.Intn(2)]
			c := wanted(r, name)
			next, a := hyper.Do(h, c)
			m, b := Ask(models[name], Of(h), h.Leaps, Turn(h, name), c)
			if a != b {
				t.Fatalf("%v: the host answers %v, the model %v", c, a, b)
			}
			codes[a.Code]++
			h = hyper.Settle(next)
			models[name] = m
			x, err := handoff.Owned(h.T, name)
			if err != nil || !alike(x, m.T) {
				t.Fatalf("%v: the host has %v, the model %v", c, x, m.T)
			}
		}
	}
	for _, no := range []int{0, 1, 3, 13, 16, 18, 19} {
		if codes[no] == 0 {
			t.Errorf("no answer with code %d", no)
		}
	}
}
