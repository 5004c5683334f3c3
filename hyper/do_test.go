package hyper_test

import (
	"math"
	"math/rand"
	"testing"

	"fusee/ahead"
	"fusee/floor"
	"fusee/handoff"
	. "fusee/hyper"
	"fusee/keep"
	"fusee/leap"
	"fusee/local"
	"fusee/page"
	"fusee/policy"
	"fusee/smear"
	"fusee/span"
	"fusee/tenant"
	"fusee/zone"
)

// now is the time at a host's counter by its page, and how far off it is at most.
func now(h Host) (int64, int64, error) {
	p, err := page.Read(h.Page)
	if err != nil {
		return 0, 0, err
	}
	return ahead.Time(p, h.Counter)
}

func TestHY4Read(t *testing.T) {
	m := running(t)
	m.pass(5)
	x, _ := handoff.Owned(m.h.T, "b")
	tai, off, err := now(m.h)
	if tai != 1000*second+5 || err != nil {
		t.Fatalf("now: %d, %d, %v", tai, off, err)
	}
	want, next, err := tenant.Read(x, table(), tai, off)
	if err != nil {
		t.Fatal(err)
	}
	due := m.h
	due.T, _ = handoff.Keep(m.h.T, next)
	due.K, _ = keep.Save(m.h.K, handoff.Table{L: due.T.L[:1]}, 5000)
	for _, kind := range []int{Read, Wall} {
		a := Answer{R: want}
		if kind == Wall {
			a.W = local.Wall{Day: 0, Second: 992}
		}
		h, got := Do(m.h, Call{Kind: kind, Name: "b", N: 7, B: []byte("x")})
		if got != a || !alike(h, due) {
			t.Errorf("kind %d: %v, want %v; %v", kind, got, a, h)
		}
	}
	if want.Value != 990*second || want.Bound != off+9 || want.Host != off {
		t.Errorf("the reading: %v", want)
	}
}

func TestHY4Errors(t *testing.T) {
	paused := running(t)
	paused.do(Call{Kind: Stop, Name: "b"}, 0)
	unset := running(t)
	unset.h.Clock.Synced = false
	torn := running(t)
	torn.h.Page[0]++
	sum := running(t)
	sum.h.Page[3]++
	none := running(t)
	none.h.Page = page.Words{}
	stale := running(t)
	stale.pass(1<<40 - 1<<40%3000 + 3000)
	far := running(t)
	far.h.Clock.R.Most, far.h.R.Clock.Most = 5, 5
	unknown := running(t)
	unknown.h.Leaps = leap.Table{Last: -50000}
	high := running(t)
	high.h.T.L[0].T.Floor = floor.Floor{Set: true, At: math.MaxInt64 / 10 * 10}
	moved := running(t)
	moved.host(Move(moved.h, "b"))
	crowded := running(t)
	crowded.h.K = keep.Store{}
	for _, name := range []string{"1", "2", "3", "4", "5", "6", "7", "8"} {
		crowded.h.K.L = append(crowded.h.K.L, keep.Record{Name: name, Safe: []byte("s")})
	}
	for _, c := range []struct {
		name string
		h    Host
		call Call
		code int
	}{
		{"right", running(t).h, Call{Kind: Read, Name: "b"}, 0},
		{"no such kind", moved.h, Call{Kind: 7, Name: "b"}, 1}, {"no such kind", running(t).h, Call{Kind: -1, Name: "b"}, 1}, {"no such kind", running(t).h, Call{Kind: math.MaxInt, Name: ""}, 1},
		{"nobody", running(t).h, Call{Kind: Read, Name: "x"}, 6}, {"nobody", running(t).h, Call{Kind: Read}, 6}, {"moved", moved.h, Call{Kind: Read, Name: "b"}, 17},
		{"not its turn", running(t).h, Call{Kind: Read, Name: "d"}, 18}, {"not its turn, and no time", unset.h, Call{Kind: Wall, Name: "d"}, 18}, {"not its turn to stop", running(t).h, Call{Kind: Stop, Name: "d"}, 18}, {"not its turn for a quantum", running(t).h, Call{Kind: Quantum, Name: "d", N: 0}, 18},
		{"not synced", unset.h, Call{Kind: Read, Name: "b"}, 13}, {"torn", torn.h, Call{Kind: Read, Name: "b"}, 15}, {"a wrong sum", sum.h, Call{Kind: Wall, Name: "b"}, 4}, {"no page", none.h, Call{Kind: Read, Name: "b"}, 4},
		{"stale", stale.h, Call{Kind: Read, Name: "b"}, 14}, {"too far off", far.h, Call{Kind: Read, Name: "b"}, 13}, {"unknown leap seconds", unknown.h, Call{Kind: Read, Name: "b"}, 10},
		{"paused", paused.h, Call{Kind: Read, Name: "b"}, 16}, {"paused, and not synced", func() Host { h := paused.h; h.Clock.Synced = false; return h }(), Call{Kind: Read, Name: "b"}, 13},
		{"a floor too high to save", high.h, Call{Kind: Wall, Name: "b"}, 2}, {"no room to save", crowded.h, Call{Kind: Read, Name: "b"}, 7},
		{"stop without a time", unset.h, Call{Kind: Stop, Name: "b"}, 13}, {"go without a time", none.h, Call{Kind: Go, Name: "b"}, 4}, {"stop on a stale page", stale.h, Call{Kind: Stop, Name: "b"}, 14}, {"go too far off", far.h, Call{Kind: Go, Name: "b"}, 13},
		{"stop twice", paused.h, Call{Kind: Stop, Name: "b"}, 19}, {"go without a stop", running(t).h, Call{Kind: Go, Name: "b"}, 19},
		{"no policy", running(t).h, Call{Kind: Policy, Name: "b"}, 3}, {"no zone", running(t).h, Call{Kind: Zone, Name: "b"}, 3}, {"no quantum", running(t).h, Call{Kind: Quantum, Name: "b"}, 1}, {"too great a quantum", running(t).h, Call{Kind: Quantum, Name: "b", N: 1<<36 + 1}, 1},
		{"a quantum without a time", unset.h, Call{Kind: Quantum, Name: "b", N: 7}, 0}, {"a floor too high for a quantum", high.h, Call{Kind: Quantum, Name: "b", N: 1 << 36}, 2}, {"a quantum, no room to save", crowded.h, Call{Kind: Quantum, Name: "b", N: 7}, 7},
	} {
		h, a := Do(c.h, c.call)
		if a.Code != c.code || c.code != 0 && (a != Answer{Code: c.code} || !alike(h, c.h)) {
			t.Errorf("%s: %v", c.name, a)
		}
	}
}

// waits tells whether something waits to be safe for a tenant.
func waits(h Host, name string) bool {
	for _, r := range h.K.L {
		if r.Name == name {
			return len(r.Waits) > 0
		}
	}
	return false
}

func TestHY4Saving(t *testing.T) {
	m := running(t)
	m.h = Settle(m.h)
	m.do(Call{Kind: Read, Name: "b"}, 0)
	e, ok := stored(m.h, "b")
	if !waits(m.h, "b") || !ok || e.T.Floor != (floor.Floor{Set: true, At: 990*second + 5000}) {
		t.Fatalf("the first reading is not saved: %v", e)
	}
	m.pass(100)
	m.do(Call{Kind: Read, Name: "b"}, 0)
	if again, _ := stored(m.h, "b"); again.T.Floor != e.T.Floor {
		t.Errorf("a value below the floor that waits was saved: %v", again)
	}
	m.h = Settle(m.h)
	m.pass(100)
	m.do(Call{Kind: Read, Name: "b"}, 0)
	if waits(m.h, "b") {
		t.Error("a value below the floor that is safe was saved")
	}
	// The next two turns begin at 3000 and 6000: the recorded floor is 5000 above.
	m.pass(2800)
	m.do(Call{Kind: Wall, Name: "b"}, 0)
	if waits(m.h, "b") {
		t.Error("a value below the floor that is safe was saved")
	}
	m.pass(3000)
	r := m.do(Call{Kind: Wall, Name: "b"}, 0).R
	e, _ = stored(m.h, "b")
	if !waits(m.h, "b") || e.T.Floor.At != r.Value+5000 {
		t.Errorf("a value above the floor was not saved: %v, %v", r, e)
	}
}

func TestHY4SavingAtTheFloor(t *testing.T) {
	m := running(t)
	m.do(Call{Kind: Read, Name: "b"}, 0)
	m.h = Settle(m.h)
	e, _ := stored(m.h, "b")
	m.h.T.L[0].T.Floor.At = e.T.Floor.At
	m.do(Call{Kind: Read, Name: "b"}, 0)
	if waits(m.h, "b") {
		t.Error("a value at the floor was saved")
	}
	m.h.T.L[0].T.Floor.At += 10
	m.do(Call{Kind: Read, Name: "b"}, 0)
	if !waits(m.h, "b") {
		t.Error("a value above the floor was not saved")
	}
	m.h.K = keep.Store{}
	m.h.T.L[0].T.Floor.At += 10
	m.do(Call{Kind: Read, Name: "b"}, 0)
	if !waits(m.h, "b") {
		t.Error("a value without a record was not saved")
	}
}

func TestHY4Most(t *testing.T) {
	m := running(t)
	_, off, _ := now(m.h)
	m.h.Clock.R.Most = off
	m.do(Call{Kind: Read, Name: "b"}, 0)
	m.h.Clock.R.Most = off - 1
	m.do(Call{Kind: Read, Name: "b"}, 13)
}

func TestHY4SavingBelowZero(t *testing.T) {
	h, err := New(0, rule())
	m := &must{t, h}
	m.host(h, err)
	m.learn()
	m.create(who("b"))
	m.hear(-1000*second, -1000*second)
	m.h = Settle(m.h)
	// The recorded floor is not set, though its At is above the value.
	if r := m.do(Call{Kind: Read, Name: "b"}, 0).R; r.Value >= 0 || !waits(m.h, "b") {
		t.Errorf("a value below 0 was not saved: %v", r)
	}
}

func TestHY4Step(t *testing.T) {
	h, err := New(0, rule())
	m := &must{t, h}
	m.host(h, err)
	m.learn()
	x := who("b")
	x.P.Smear = smear.Smear{}
	m.create(x)
	m.hear(1000*second, 1000*second)
	m.h = Settle(m.h)
	r := m.do(Call{Kind: Read, Name: "b"}, 0).R
	if waits(m.h, "b") || m.h.T.L[0].T.Floor.Set || r.Raised != 0 || r.Bound != r.Host+9+second {
		t.Errorf("a step: %v, %v", r, m.h.T)
	}
}

func TestHY5(t *testing.T) {
	m := running(t)
	m.do(Call{Kind: Read, Name: "b"}, 0)
	m.h = Settle(m.h)
	x, _ := handoff.Owned(m.h.T, "b")
	p := policy.Usual()
	p.Quantum, p.Zone.Name = 7, "other"
	pb, _ := policy.Encode(p)
	z := zone.Zone{Name: "new", First: 9, L: []zone.Rule{{At: 5, Off: 6, Name: "n"}}}
	zb, _ := zone.Encode(z)
	tai, _, _ := now(m.h)
	want := map[int]func() (tenant.Tenant, error){
		Policy:  func() (tenant.Tenant, error) { return tenant.Set(x, p) },
		Quantum: func() (tenant.Tenant, error) { q := x.P; q.Quantum = 13; return tenant.Set(x, q) },
		Zone:    func() (tenant.Tenant, error) { q := x.P; q.Zone = z; return tenant.Set(x, q) },
		Stop:    func() (tenant.Tenant, error) { return tenant.Stop(x, tai) },
	}
	for kind, f := range want {
		b := pb
		if kind == Zone {
			b = zb
		}
		next, err := f()
		if err != nil {
			t.Fatal(err)
		}
		due := m.h
		due.T, _ = handoff.Keep(m.h.T, next)
		due.K, _ = keep.Save(m.h.K, handoff.Table{L: due.T.L[:1]}, 5000)
		h, a := Do(m.h, Call{Kind: kind, Name: "b", B: b, N: 13})
		if a != (Answer{}) || !alike(h, due) || !waits(h, "b") {
			t.Errorf("kind %d: %v, %v; want %v", kind, a, h.T, due.T)
		}
	}
	m.do(Call{Kind: Stop, Name: "b"}, 0)
	m.do(Call{Kind: Read, Name: "b"}, 16)
	m.pass(500)
	m.do(Call{Kind: Go, Name: "b"}, 0)
	if lost := m.h.T.L[0].T.Pause.Lost; lost != 500 {
		t.Errorf("lost: %d", lost)
	}
	if e, _ := stored(m.h, "b"); e.T.Pause.Lost != 500 || e.T.Pause.On {
		t.Errorf("stored: %v", e)
	}
}

func TestHY5TooManyRules(t *testing.T) {
	m := running(t)
	z := zone.Zone{Name: "new"}
	for i := range 17 {
		z.L = append(z.L, zone.Rule{At: int64(i), Name: "n"})
	}
	b, _ := zone.Encode(z)
	m.do(Call{Kind: Zone, Name: "b", B: b}, 1)
	p := policy.Usual()
	p.Zone = z
	b, _ = policy.Encode(p)
	m.do(Call{Kind: Policy, Name: "b", B: b}, 1)
	z.L = z.L[:16]
	b, _ = zone.Encode(z)
	m.do(Call{Kind: Zone, Name: "b", B: b}, 0)
}

// asked is a call by chance.
func asked(r *rand.Rand, name string) Call {
	kinds := []int{Read, Read, Read, Wall, Quantum, Stop, Go, Policy}
	c := Call{Kind: kinds[r.Intn(len(kinds))], Name: name, N: r.Int63n(200)}
	if c.Kind == Policy {
		p := who(name).P
		p.Fuzz.Width, p.Fuzz.Cell, p.Jump = r.Int63n(1000), 100, r.Intn(2) == 0
		if r.Intn(3) == 0 {
			p.Smear = smear.Smear{}
		}
		c.B, _ = policy.Encode(p)
	}
	return c
}

func TestHY6Isolation(t *testing.T) {
	for seed := range int64(10) {
		alone, among := running(t), running(t)
		shared, own, others := rand.New(rand.NewSource(seed)), rand.New(rand.NewSource(seed+100)), rand.New(rand.NewSource(seed+200))
		for range 300 {
			steps, tell := shared.Int63n(1500), shared.Intn(5) == 0
			for _, m := range []*must{alone, among} {
				m.pass(steps)
				if tell {
					m.hear(1000*second+m.h.Counter-30, 1000*second+m.h.Counter+20)
				}
			}
			next, _ := Do(among.h, asked(others, "d"))
			among.h = Settle(next)
			if others.Intn(50) == 0 {
				if next, err := Move(among.h, "d"); err == nil {
					among.h = next
				}
			}
			c := asked(own, "b")
			a, first := Do(alone.h, c)
			b, second := Do(among.h, c)
			if first != second {
				t.Fatalf("%v: %v alone, %v among others", c, first, second)
			}
			alone.h, among.h = Settle(a), Settle(b)
		}
	}
}

func TestHY6Crashes(t *testing.T) {
	r := rand.New(rand.NewSource(40))
	for range 20 {
		m := running(t)
		m.h = Settle(m.h)
		last := int64(math.MinInt64)
		readings := 0
		for range 300 {
			m.pass(r.Int63n(1500))
			if r.Intn(4) == 0 {
				now := 1000*second + m.h.Counter
				m.host(Hear(m.h, r.Intn(3), span.Span{Lo: now - r.Int63n(9000), Hi: now + r.Int63n(9000)}))
			}
			name := []string{"b", "d"}[r.Intn(2)]
			next, a := Do(m.h, asked(r, name))
			if r.Intn(8) == 0 {
				m.h = Crash(next, []bool{r.Intn(2) == 0, r.Intn(2) == 0})
				continue
			}
			m.h = Settle(next)
			x, err := handoff.Owned(m.h.T, "b")
			if name != "b" || a.Code != 0 || a.R == (tenant.Reading{}) || err != nil || x.P.Smear.Kind == smear.Step {
				continue
			}
			readings++
			if a.R.Value < last {
				t.Fatalf("%d behind %d", a.R.Value, last)
			}
			last = a.R.Value
		}
		if readings == 0 {
			t.Error("nothing was read")
		}
	}
}
