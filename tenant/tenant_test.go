package tenant_test

import (
	"errors"
	"fmt"
	"math"
	"math/rand"
	"slices"
	"testing"

	"fusee/api"
	"fusee/floor"
	"fusee/fuzz"
	"fusee/leap"
	"fusee/local"
	"fusee/pause"
	"fusee/policy"
	"fusee/prf"
	"fusee/quant"
	"fusee/smear"
	. "fusee/tenant"
	"fusee/zone"
)

const second = 1000000000

// alike tells whether two values are the same, where lists without elements are, too.
func alike(a, b any) bool { return fmt.Sprintf("%+v", a) == fmt.Sprintf("%+v", b) }

// code is the number of an error, 0 without one.
func code(err error) int {
	var e api.Errno
	if err == nil {
		return 0
	}
	if errors.As(err, &e) {
		return int(e)
	}
	return -1
}

func table() leap.Table { return leap.Table{Base: 10, Last: 3000, L: []int64{100, 2000}} }

// with is a tenant, changed.
func with(change func(t *Tenant)) Tenant {
	t := Tenant{Name: "abc9", Key: prf.Key{1, 2}, P: policy.Policy{Smear: smear.Smear{Kind: smear.Linear, Before: 1000, After: 1000}, Quantum: 1000, Fuzz: fuzz.Fuzz{Width: 500, Cell: 7000},
		Zone: zone.Zone{Name: "Z", First: 60, L: []zone.Rule{{At: 100, Off: 3600, Name: "one"}}}}, Epoch: 4}
	change(&t)
	return t
}

func good() []Tenant {
	return []Tenant{
		with(func(t *Tenant) {}),
		with(func(t *Tenant) { t.Name = "z" }), with(func(t *Tenant) { t.Name = "0123456789az" }),
		with(func(t *Tenant) { t.P = policy.Usual() }),
		with(func(t *Tenant) { t.Pause = pause.Pause{On: true, At: 5000, Lost: 7} }),
		with(func(t *Tenant) { t.Pause.Lost = 1 << 61 }),
		with(func(t *Tenant) { t.Floor = floor.Floor{Set: true, At: -5000} }),
		with(func(t *Tenant) { t.Floor = floor.Floor{Set: true} }),
		with(func(t *Tenant) { t.Epoch = 1 << 40 }), with(func(t *Tenant) { t.Epoch = 0 }),
	}
}

func wrong() []Tenant {
	return []Tenant{
		{},
		with(func(t *Tenant) { t.Name = "" }), with(func(t *Tenant) { t.Name = "0123456789abc" }), with(func(t *Tenant) { t.Name = "A" }), with(func(t *Tenant) { t.Name = "a b" }), with(func(t *Tenant) { t.Name = "a_" }),
		with(func(t *Tenant) { t.Name = "{" }), with(func(t *Tenant) { t.Name = "`" }), with(func(t *Tenant) { t.Name = "/" }), with(func(t *Tenant) { t.Name = ":" }), with(func(t *Tenant) { t.Name = "é" }),
		with(func(t *Tenant) { t.P.Quantum = 0 }), with(func(t *Tenant) { t.P.Smear.Before = -1 }), with(func(t *Tenant) { t.P.Zone.Name = "" }), with(func(t *Tenant) { t.P.Fuzz.Cell = 0 }),
		with(func(t *Tenant) { t.Pause.At = 1 }), with(func(t *Tenant) { t.Pause.Lost = -1 }),
		with(func(t *Tenant) { t.Floor = floor.Floor{Set: true, At: 999} }), with(func(t *Tenant) { t.Floor.At = 1000 }),
		with(func(t *Tenant) { t.Epoch = -1 }), with(func(t *Tenant) { t.Epoch = 1<<40 + 1 }),
	}
}

func TestTN1Check(t *testing.T) {
	for _, x := range good() {
		if Check(x) != nil {
			t.Errorf("Check(%v): %v", x, Check(x))
		}
	}
	for _, x := range wrong() {
		r, a, rerr := Read(x, table(), 0, 0)
		s, serr := Set(x, policy.Usual())
		b, berr := Stop(x, 0)
		g, gerr := Go(x, 0)
		w, werr := Wall(x, Reading{})
		n, nerr := True(x, table(), 0)
		if code(Check(x)) != 1 || r != (Reading{}) || w != (local.Wall{}) || n != 0 || !slices.Equal([]int{code(rerr), code(serr), code(berr), code(gerr), code(werr), code(nerr)}, []int{1, 1, 1, 1, 1, 1}) {
			t.Errorf("%v: %v, %v, %v, %v, %v, %v, %v", x, Check(x), rerr, serr, berr, gerr, werr, nerr)
		}
		for _, zero := range []Tenant{a, s, b, g} {
			if !alike(zero, Tenant{}) {
				t.Errorf("%v: %v", x, zero)
			}
		}
	}
}

func TestTN1New(t *testing.T) {
	p := with(func(t *Tenant) {}).P
	got, err := New("abc", prf.Key{5}, p)
	if !alike(got, Tenant{Name: "abc", Key: prf.Key{5}, P: p}) || err != nil {
		t.Errorf("New: %v, %v", got, err)
	}
	got.P.Zone.L[0].At = 99999
	if p.Zone.L[0].At != 100 {
		t.Error("New shares memory with its argument")
	}
	bad := p
	bad.Quantum = 0
	for _, c := range []struct {
		name string
		p    policy.Policy
	}{{"", p}, {"A", p}, {"0123456789abc", p}, {"a", bad}, {"a", policy.Policy{}}} {
		if got, err := New(c.name, prf.Key{}, c.p); !alike(got, Tenant{}) || code(err) != 1 {
			t.Errorf("New(%q, %v): %v, %v", c.name, c.p, got, err)
		}
	}
}

func TestTN1True(t *testing.T) {
	for _, x := range good() {
		for _, tai := range []int64{0, 5 * second, 86400 * 100 * second, (86400*101 + 10) * second, (86400*101 + 10) * second * 2, 1<<62 - 1, 1 - 1<<62, 1 << 62, math.MinInt64, 3000 * 86400 * second, 3001 * 86400 * second} {
			seen, want := pause.View(x.Pause, tai)
			n := int64(0)
			if want == nil {
				n, want = smear.At(x.P.Smear, table(), seen)
			}
			if got, err := True(x, table(), tai); got != n || code(err) != code(want) {
				t.Errorf("True(%v, %d): %d, %v; want %d, %v", x, tai, got, err, n, want)
			}
		}
		if n, err := True(x, leap.Table{Base: -1}, 0); n != 0 || err == nil {
			t.Errorf("True with a wrong table: %d, %v", n, err)
		}
	}
}

func TestTN1Set(t *testing.T) {
	p := with(func(t *Tenant) { t.P.Quantum = 700 }).P
	for _, c := range []struct {
		f, want floor.Floor
		q       int64
		code    int
	}{
		{floor.Floor{}, floor.Floor{}, 700, 0},
		{floor.Floor{Set: true, At: 1000}, floor.Floor{Set: true, At: 1400}, 700, 0},
		{floor.Floor{Set: true, At: -1000}, floor.Floor{Set: true, At: -700}, 700, 0},
		{floor.Floor{Set: true, At: 7000}, floor.Floor{Set: true, At: 7000}, 700, 0},
		{floor.Floor{Set: true, At: math.MaxInt64 / 1000 * 1000}, floor.Floor{}, 1 << 36, 2},
	} {
		x := with(func(t *Tenant) { t.Floor = c.f })
		p.Quantum = c.q
		got, err := Set(x, p)
		if c.code != 0 {
			if !alike(got, Tenant{}) || code(err) != c.code {
				t.Errorf("Set(%v): %v, %v", x, got, err)
			}
			continue
		}
		want := x
		want.P, want.Floor = p, c.want
		if !alike(got, want) || err != nil || Check(got) != nil {
			t.Errorf("Set(%v): %v, %v", x, got, err)
		}
		got.P.Zone.L[0].At = 99999
		if p.Zone.L[0].At != 100 {
			t.Error("Set shares memory with its argument")
		}
	}
	p.Quantum = 0
	if got, err := Set(good()[0], p); !alike(got, Tenant{}) || code(err) != 1 {
		t.Errorf("Set with a wrong policy: %v, %v", got, err)
	}
}

func TestTN1StopAndGo(t *testing.T) {
	for _, x := range good() {
		for _, jump := range []bool{false, true} {
			x.P.Jump = jump
			for _, tai := range []int64{0, 4999, 5000, 6000, 1<<62 - 1, 1 << 62, math.MinInt64} {
				held, want := pause.Stop(x.Pause, tai)
				got, err := Stop(x, tai)
				expect(t, x, held, want, got, err)
				free, want := pause.Go(x.Pause, tai, jump)
				got, err = Go(x, tai)
				expect(t, x, free, want, got, err)
			}
		}
	}
}

// expect tells whether a tenant has another pause, and shares nothing.
func expect(t *testing.T, x Tenant, p pause.Pause, want error, got Tenant, err error) {
	t.Helper()
	next := x
	next.Pause = p
	if want != nil {
		next = Tenant{}
	}
	if !alike(got, next) || code(err) != code(want) {
		t.Errorf("%v: %v, %v; want %v, %v", x, got, err, next, want)
	}
	if len(got.P.Zone.L) > 0 {
		got.P.Zone.L[0].Off++
		if got.P.Zone.L[0] == x.P.Zone.L[0] {
			t.Error("memory is shared")
		}
	}
}

func TestTN2Values(t *testing.T) {
	x := with(func(t *Tenant) { t.Pause.Lost = 3 * second })
	for _, f := range []floor.Floor{{}, {Set: true, At: -1 << 50 / 1000 * 1000}, {Set: true, At: 5000 * second}, {Set: true, At: 1 << 61 / 1000 * 1000}} {
		for _, kind := range []int{smear.Linear, smear.Step} {
			for _, off := range []int64{0, 5, math.MaxInt64} {
				for _, tai := range []int64{5000 * second, 5000*second + 1234567, (101*86400+10)*second - 5, 0} {
					x.Floor, x.P.Smear = f, smear.Smear{Kind: kind, Before: 1000 * int64(kind), After: 1000 * int64(kind)}
					seen, err := True(x, table(), tai)
					if err != nil {
						t.Fatal(err)
					}
					blurred, _ := fuzz.At(x.P.Fuzz, x.Key, seen)
					down, _ := quant.Down(blurred, 1000)
					want, next, jump := Reading{Value: down, Host: off}, x, int64(second)
					if kind != smear.Step {
						jump = 0
						want.Value, want.Raised, next.Floor = floor.Take(f, down)
					}
					want.Bound = math.MaxInt64
					if rest := 500 + 999 + want.Raised + jump; off < math.MaxInt64-rest {
						want.Bound = off + rest
					}
					r, got, err := Read(x, table(), tai, off)
					if r != want || !alike(got, next) || err != nil {
						t.Errorf("Read(%v, %d, %d): %v, %v, %v; want %v", x, tai, off, r, got, err, want)
					}
					got.P.Zone.L[0].At = 99999
					if x.P.Zone.L[0].At != 100 {
						t.Error("Read shares memory with its argument")
					}
				}
			}
		}
	}
}

func TestTN2Usual(t *testing.T) {
	x, _ := New("a", prf.Key{}, policy.Usual())
	none := leap.Table{Base: 10, Last: 50000}
	for _, tai := range []int64{10 * second, 12345678901234567, -5 * second, 1} {
		r, next, err := Read(x, none, tai, 7)
		if r != (Reading{tai - 10*second, 7 + second, 0, 7}) || !alike(next, x) || err != nil {
			t.Errorf("Read at %d: %v, %v, %v", tai, r, next, err)
		}
	}
}

func TestTN2Errors(t *testing.T) {
	paused := with(func(t *Tenant) { t.Pause.On = true })
	lost := with(func(t *Tenant) { t.Pause.Lost = 1 << 61 })
	for _, c := range []struct {
		name     string
		x        Tenant
		table    leap.Table
		tai, off int64
		code     int
	}{
		{"right", good()[0], table(), 0, 0, 0},
		{"off below 0", good()[0], table(), 0, -1, 1}, {"off below 0, and paused", paused, table(), 0, -1, 1},
		{"paused", paused, table(), 0, 0, 16}, {"paused, and no time", paused, table(), 1 << 62, 0, 16},
		{"no time", good()[0], table(), 1 << 62, 0, 1}, {"lost too much", lost, table(), 1 - 1<<62, 0, 2},
		{"a wrong table", good()[0], leap.Table{Base: -1}, 0, 0, 1},
		{"a time that is not known", good()[0], table(), 3001 * 86400 * second, 0, 10}, {"a time ahead of all days", good()[0], table(), -50001 * 86400 * second, 0, 2},
	} {
		r, next, err := Read(c.x, c.table, c.tai, c.off)
		if code(err) != c.code || c.code != 0 && (r != (Reading{}) || !alike(next, Tenant{})) {
			t.Errorf("%s: %v, %v, %v", c.name, r, next, err)
		}
	}
}

func TestTN3(t *testing.T) {
	for _, x := range good() {
		for _, value := range []int64{0, -1, 99*second + 5, 100 * second, 86400 * second, math.MinInt64, math.MaxInt64} {
			s := value / second
			if value%second < 0 {
				s--
			}
			want, werr := local.Show(x.P.Zone, s)
			if got, err := Wall(x, Reading{Value: value}); got != want || err != nil || werr != nil {
				t.Errorf("Wall(%v, %d): %v, %v; want %v", x, value, got, err, want)
			}
		}
	}
	if w, _ := Wall(good()[0], Reading{Value: 99 * second}); w != (local.Wall{Day: 0, Second: 159}) {
		t.Errorf("Wall: %v", w)
	}
}

func TestTN4(t *testing.T) {
	r := rand.New(rand.NewSource(32))
	for range 60 {
		x, err := New("a", prf.Key{byte(r.Intn(256))}, randomPolicy(r))
		if err != nil {
			t.Fatal(err)
		}
		last := int64(math.MinInt64)
		is := int64(101*86400-3000) * second
		for range 60 {
			is += r.Int63n(100 * second)
			off := r.Int63n(1 << 40 >> r.Intn(40))
			tai := is + r.Int63n(2*off+1) - off
			switch r.Intn(8) {
			case 0:
				if next, err := Set(x, randomPolicy(r)); err == nil {
					x = next
				}
			case 1:
				if next, err := Stop(x, tai); err == nil {
					x = next
				}
			case 2:
				if next, err := Go(x, tai); err == nil {
					x = next
				}
			}
			got, next, err := Read(x, table(), tai, off)
			if err != nil {
				if !x.Pause.On || code(err) != 16 {
					t.Fatal(err)
				}
				continue
			}
			x = next
			truth, err := True(x, table(), is)
			if err != nil || got.Value-truth > got.Bound || truth-got.Value > got.Bound || got.Value%x.P.Quantum != 0 {
				t.Fatalf("%v: %v at %d, true %d", x, got, is, truth)
			}
			if x.P.Smear.Kind == smear.Step {
				continue
			}
			if got.Value < last {
				t.Fatalf("%v: %d behind %d", x, got.Value, last)
			}
			last = got.Value
		}
	}
}

// randomPolicy is a policy by chance.
func randomPolicy(r *rand.Rand) policy.Policy {
	p := policy.Usual()
	p.Quantum = 1 + r.Int63n(1<<36)>>r.Intn(36)
	p.Fuzz = fuzz.Fuzz{Width: r.Int63n(1<<40) >> r.Intn(40), Cell: 1 + r.Int63n(1<<50)>>r.Intn(50)}
	p.Jump = r.Intn(2) == 0
	if kind := r.Intn(3); kind != smear.Step {
		p.Smear = smear.Smear{Kind: kind, Before: 2000 + r.Int63n(2000), After: 1600 + r.Int63n(2000)}
	}
	return p
}
