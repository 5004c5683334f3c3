package trace_test

import (
	"errors"
	"fmt"
	"math"
	"math/rand"
	"slices"
	"testing"

	"fusee/api"
	"fusee/audit"
	"fusee/fuzz"
	"fusee/handoff"
	"fusee/host"
	"fusee/hyper"
	"fusee/leap"
	"fusee/policy"
	"fusee/prf"
	"fusee/ratio"
	"fusee/servo"
	"fusee/slot"
	"fusee/smear"
	"fusee/span"
	"fusee/tenant"
	. "fusee/trace"
	"fusee/twin"
	"fusee/zone"
)

const second = 1000000000

// alike tells whether two values are the same, where lists without elements are, too.
func alike(a, b any) bool { return fmt.Sprintf("%+v", a) == fmt.Sprintf("%+v", b) }

// code is the number of an error, 0 without one.
func code(err error) int {
	var e api.Errno
	if err == nil {
		return 0
	}
	if errors.As(err, &e) {
		return int(e)
	}
	return -1
}

// rule has one nanosecond a step, and slots of 100 steps.
func rule() hyper.Rule {
	return hyper.Rule{
		Clock:  host.Rule{Plain: ratio.Factor{Mult: 1 << 31, Shift: 31}, Rho: 1000, Gain: servo.Gain{P: 100, I: 10}, Limit: 1000, Most: 1 << 40},
		Margin: 500, Cap: 1 << 40, Keep: 1 << 40, Round: slot.Round{Steps: 100, L: []string{"a", "b", "c", "d"}},
	}
}

// who is a new tenant, with a smear that is not Step.
func who(name string) tenant.Tenant {
	p := policy.Usual()
	p.Smear = smear.Smear{Kind: smear.Linear, Before: 1000, After: 1000}
	p.Quantum = 10
	p.Zone.L = []zone.Rule{{At: 1, Off: 2, Name: "z"}}
	return tenant.Tenant{Name: name, Key: prf.Key{1}, P: p}
}

func table() leap.Table { return leap.Table{Base: 10, Last: 50000, L: []int64{0, 2000}} }

// do is an act, which wants a code.
func do(t *testing.T, p Play, a twin.Act, want int) Play {
	t.Helper()
	next, said := Do(p, a)
	if said.Code != want {
		t.Fatalf("%v: code %d, want %d", a, said.Code, want)
	}
	return next
}

// running is a play that began at 1000 seconds, with the tenants "a" and "b".
func running(t *testing.T, r hyper.Rule) Play {
	t.Helper()
	p, err := New(r, 1000*second)
	if err != nil {
		t.Fatal(err)
	}
	b, _ := leap.Encode(table())
	for id := range 2 {
		p = do(t, p, twin.Act{Kind: twin.Learn, Host: id, B: b}, 0)
		p = do(t, p, twin.Act{Kind: twin.Hear, Host: id, S: span.Span{Lo: 1000*second - 5, Hi: 1000*second + 5}}, 0)
	}
	p = do(t, p, twin.Act{Kind: twin.Create, Host: 1, T: who("a")}, 0)
	return do(t, p, twin.Act{Kind: twin.Create, Host: 0, T: who("b")}, 0)
}

func TestTR1New(t *testing.T) {
	x, _ := twin.New(rule())
	for _, start := range []int64{0, 5, 1<<61 - 1, 1 - 1<<61} {
		if p, err := New(rule(), start); !alike(p, Play{T: x, Start: start}) || err != nil {
			t.Errorf("New at %d: %v, %v", start, p, err)
		}
	}
	wrong := rule()
	wrong.Cap = 0
	for _, start := range []int64{1 << 61, -1 << 61, math.MinInt64, math.MaxInt64} {
		if p, err := New(rule(), start); !alike(p, Play{}) || code(err) != 1 {
			t.Errorf("New at %d: %v, %v", start, p, err)
		}
	}
	if p, err := New(wrong, 0); !alike(p, Play{}) || code(err) != 1 {
		t.Errorf("New with a wrong rule: %v, %v", p, err)
	}
	if a, b, c := Find(Play{}, "a"); a != -1 || b != -1 || c != -1 {
		t.Errorf("Find in nothing: %d, %d, %d", a, b, c)
	}
}

func TestTR1True(t *testing.T) {
	p := running(t, rule())
	p = do(t, p, twin.Act{Kind: twin.Pass, N: 77}, 0)
	for id, no := range map[int]int{0: 0, 1: 0, -1: 1, 2: 1, math.MaxInt: 1} {
		n, err := True(p, id)
		if code(err) != no || no == 0 && n != 1000*second+77 || no != 0 && n != 0 {
			t.Errorf("True at %d: %d, %v", id, n, err)
		}
	}
	p.T.H[1].Counter = 5
	if n, err := True(p, 1); n != 1000*second+5 || err != nil {
		t.Errorf("True of host 1: %d, %v", n, err)
	}
	fast := rule()
	fast.Clock.Plain = ratio.Factor{Mult: math.MaxUint32}
	for _, c := range []struct {
		start, counter int64
		want           int64
		code           int
	}{{1<<61 - 1, 1 << 29, 0, 0}, {1<<61 - 1, 1<<29 + 1, 0, 2}, {0, 1 << 31, 0, 2}, {-1<<61 + 1, 1 << 30, 0, 0}, {1<<61 - 1, 1 << 31, 0, 2}, {0, 1 << 60, 0, 2}, {1<<61 - 1, 1<<31 + 1, 0, 2}, {5, 1 << 30, 5 + 1<<62 - 1<<30, 0}, {1<<61 + 1<<29 - 1<<32 + 1, 1<<29 + 1, 0, 2}, {1<<61 + 1<<29 - 1<<32, 1<<29 + 1, 1<<62 - 1, 0}} {
		x, err := New(fast, c.start)
		if err != nil {
			t.Fatal(err)
		}
		x = do(t, x, twin.Act{Kind: twin.Pass, N: c.counter}, 0)
		n, err := True(x, 0)
		if c.code == 0 && c.want == 0 {
			c.want = c.start + c.counter*math.MaxUint32
		}
		if n != c.want || code(err) != c.code {
			t.Errorf("True of %v: %d, %v", c, n, err)
		}
	}
}

func TestTR1Honest(t *testing.T) {
	p := running(t, rule())
	p = do(t, p, twin.Act{Kind: twin.Pass, N: 77}, 0)
	p.T.H[1].Counter = 5
	is := int64(1000*second + 77)
	for _, c := range []struct {
		a    twin.Act
		want bool
	}{
		{twin.Act{Kind: twin.Hear, S: span.Span{Lo: is, Hi: is}}, true}, {twin.Act{Kind: twin.Hear, S: span.Span{Lo: is + 1, Hi: is + 5}}, false}, {twin.Act{Kind: twin.Hear, S: span.Span{Lo: is - 5, Hi: is - 1}}, false}, {twin.Act{Kind: twin.Hear, S: span.Span{Lo: is - 5, Hi: is + 5}}, true},
		{twin.Act{Kind: twin.Hear, S: span.Span{Lo: is + 1, Hi: is - 1}}, false}, {twin.Act{Kind: twin.Hear, Host: 1, S: span.Span{Lo: is, Hi: is}}, false}, {twin.Act{Kind: twin.Hear, Host: 1, S: span.Span{Lo: is - 72, Hi: is - 72}}, true},
		{twin.Act{Kind: twin.Hear, Host: 2, S: span.Span{Lo: math.MinInt64, Hi: math.MaxInt64}}, false}, {twin.Act{Kind: twin.Hear, Host: -1, S: span.Span{Lo: math.MinInt64, Hi: math.MaxInt64}}, false},
		{twin.Act{Kind: twin.Pass, N: -1}, true}, {twin.Act{Kind: 99, Host: 99}, true}, {twin.Act{Kind: -1}, true}, {twin.Act{Kind: twin.Ask, Host: 5}, true},
	} {
		if got := Honest(p, c.a); got != c.want {
			t.Errorf("Honest(%v): %t", c.a, got)
		}
	}
}

func TestTR2Events(t *testing.T) {
	p := running(t, rule())
	p = do(t, p, twin.Act{Kind: twin.Pass, N: 107}, 0)
	x, _ := handoff.Owned(p.T.H[0].T, "b")
	truth, err := tenant.True(x, table(), 1000*second+107)
	if err != nil {
		t.Fatal(err)
	}
	for _, kind := range []int{hyper.Read, hyper.Wall} {
		a := twin.Act{Kind: twin.Ask, C: hyper.Call{Kind: kind, Name: "b"}}
		want, said := twin.Do(p.T, a)
		got, answer := Do(p, a)
		e := audit.Event{Host: 0, Name: "b", Quantum: 10, R: said.R, Known: true, True: truth}
		if answer != said || !alike(got, Play{want, p.Start, []audit.Event{e}}) {
			t.Errorf("kind %d: %v, %v; want %v", kind, got.L, answer, e)
		}
	}
	for i, a := range []twin.Act{
		{Kind: twin.Ask, C: hyper.Call{Name: "a"}}, {Kind: twin.Ask, Host: 1, C: hyper.Call{Name: "a"}}, {Kind: twin.Ask, Host: 7, C: hyper.Call{Name: "b"}}, {Kind: twin.Ask, C: hyper.Call{Name: "b"}, Down: true}, {Kind: twin.Ask, C: hyper.Call{Kind: hyper.Quantum, Name: "b", N: 7}}, {Kind: twin.Ask, C: hyper.Call{Kind: hyper.Stop, Name: "b"}},
		{Kind: twin.Pass, C: hyper.Call{Name: "b"}, N: 1}, {Kind: twin.Say, C: hyper.Call{Name: "b"}}, {Kind: twin.Move, C: hyper.Call{Name: "b"}}, {Kind: 77},
	} {
		want, said := twin.Do(p.T, a)
		if got, answer := Do(p, a); answer != said || !alike(got, Play{T: want, Start: p.Start}) {
			t.Errorf("act %d: %v, %v", i, got.L, answer)
		}
	}
}

func TestTR2Unknown(t *testing.T) {
	p := running(t, rule())
	p = do(t, p, twin.Act{Kind: twin.Pass, N: 107}, 0)
	far := p
	far.Start = 1<<61 - 1
	far = do(t, far, twin.Act{Kind: twin.Ask, C: hyper.Call{Name: "b"}}, 0)
	if e := far.L[0]; !e.Known || e.True == 0 {
		t.Errorf("a time that is known: %v", e)
	}
	// At the counter 2^60 and a start of nearly 2^61, the truth is a time, but of no day that the table knows.
	p.T.H[0].Leaps.Last = 5
	p.T.H[0].Leaps.L = nil
	p.Start = 1 << 60
	p = do(t, p, twin.Act{Kind: twin.Ask, C: hyper.Call{Name: "b"}}, 0)
	if e := p.L[0]; e.Known || e.True != 0 || e.R.Value == 0 || e.Quantum != 10 {
		t.Errorf("a time of no day: %v", e)
	}
	p.T.H[0].Clock.R.Plain.Mult = 0
	if _, err := True(p, 0); code(err) != 1 {
		t.Errorf("no truth: %v", err)
	}
}

func TestTR2Step(t *testing.T) {
	p := running(t, rule())
	how := policy.Usual()
	how.Quantum = 7
	b, _ := policy.Encode(how)
	p = do(t, p, twin.Act{Kind: twin.Pass, N: 107}, 0)
	p = do(t, p, twin.Act{Kind: twin.Ask, C: hyper.Call{Kind: hyper.Policy, Name: "b", B: b}}, 0)
	p = do(t, p, twin.Act{Kind: twin.Ask, C: hyper.Call{Name: "b"}}, 0)
	if e := p.L[0]; !e.Step || e.Quantum != 7 {
		t.Errorf("a step: %v", e)
	}
}

func TestTR2Find(t *testing.T) {
	e := func(value, quantum, is int64) audit.Event {
		return audit.Event{Name: "a", Quantum: quantum, R: tenant.Reading{Value: value, Bound: 5}, Known: true, True: is}
	}
	p := Play{L: []audit.Event{e(10, 1, 10), e(11, 1, 99), e(13, 2, 13), e(9, 1, 9)}}
	if a, b, c := Find(p, "a"); a != 3 || b != 2 || c != 1 {
		t.Errorf("Find: %d, %d, %d", a, b, c)
	}
	if a, b, c := Find(p, "b"); a != -1 || b != -1 || c != -1 {
		t.Errorf("Find of another one: %d, %d, %d", a, b, c)
	}
}

func TestTR2OwnMemory(t *testing.T) {
	p := running(t, rule())
	p = do(t, p, twin.Act{Kind: twin.Pass, N: 107}, 0)
	p = do(t, p, twin.Act{Kind: twin.Ask, C: hyper.Call{Name: "b"}}, 0)
	p.L = slices.Grow(p.L, 10)
	before := p.L[0]
	for _, a := range []twin.Act{{Kind: twin.Ask, C: hyper.Call{Name: "b"}}, {Kind: twin.Pass, N: 1}, {Kind: 99}} {
		got, _ := Do(p, a)
		for i := range got.L {
			got.L[i] = audit.Event{}
		}
		got.T.H[0].R.Round.L[0] = "!"
		got.T.H[0].T.L[0].T.P.Zone.L[0].At = 99
		if p.L[0] != before || p.L[:2][1] != (audit.Event{}) || p.T.H[0].R.Round.L[0] != "a" || p.T.H[0].T.L[0].T.P.Zone.L[0].At != 1 {
			t.Fatal("memory is shared")
		}
	}
}

// wild is an act by chance; what it tells of the time is true if it is honest.
func wild(r *rand.Rand, p Play, honest bool) twin.Act {
	name := []string{"a", "b", "c", "d"}[r.Intn(4)]
	a := twin.Act{Kind: r.Intn(11), Host: r.Intn(2), C: hyper.Call{Name: name}, T: who(name), Down: r.Intn(30) == 0, Keep: []bool{r.Intn(2) == 0, r.Intn(2) == 0}}
	if r.Intn(2) == 0 {
		a.Kind = []int{twin.Ask, twin.Ask, twin.Ask, twin.Hear}[r.Intn(4)]
	}
	switch a.Kind {
	case twin.Pass:
		a.N = r.Int63n(150)
		if r.Intn(20) == 0 {
			a.N = r.Int63n(500 * second)
		}
	case twin.Come, twin.Double:
		a.N = r.Int63n(4)
	case twin.Crash:
		a.Kind = twin.Say
	case twin.Hear:
		is, _ := True(p, a.Host)
		if !honest && r.Intn(2) == 0 {
			is += r.Int63n(200*second) - 100*second
		}
		a.N, a.S = r.Int63n(3), span.Span{Lo: is - r.Int63n(3000), Hi: is + r.Int63n(3000)}
	case twin.Learn:
		a.B, _ = leap.Encode(table())
	case twin.Move, twin.Lose:
		if r.Intn(3) > 0 {
			a.Kind, a.N = twin.Come, 0
		}
	case twin.Ask:
		a.C = asked(r, p, a)
		if l := twin.Owners(p.T, a.C.Name); len(l) > 0 && r.Intn(4) > 0 {
			a.Host = l[0]
		}
	}
	return a
}

// asked is a call by chance, of the tenant whose turn it is.
func asked(r *rand.Rand, p Play, a twin.Act) hyper.Call {
	name, _ := slot.Who(rule().Round, p.T.H[a.Host].Counter)
	c := hyper.Call{Kind: []int{hyper.Read, hyper.Wall, hyper.Read, hyper.Read, hyper.Quantum, hyper.Stop, hyper.Go, hyper.Go, hyper.Policy}[r.Intn(9)], Name: name, N: 1 + r.Int63n(50)}
	if c.Kind == hyper.Policy {
		how := who(name).P
		how.Fuzz, how.Jump = fuzz.Fuzz{Width: r.Int63n(2000), Cell: 1 + r.Int63n(500)}, r.Intn(2) == 0
		how.Smear.Kind = smear.Linear + r.Intn(2)
		how.Smear.Before, how.Smear.After = 1000+r.Int63n(3000), 2600+r.Int63n(3000)
		if r.Intn(5) == 0 {
			how.Smear = smear.Smear{}
		}
		c.B, _ = policy.Encode(how)
	}
	return c
}

func TestTR3(t *testing.T) {
	r := rand.New(rand.NewSource(51))
	readings := 0
	for round := range 16 {
		honest := round%2 == 0
		how := rule()
		if round%4 < 2 {
			how.Clock.Rho, how.Clock.Gain = 0, servo.Gain{}
		}
		p := running(t, how)
		if round%3 == 0 {
			p = do(t, p, twin.Act{Kind: twin.Pass, N: 83000 * second}, 0)
		}
		for range 2500 {
			a := wild(r, p, honest)
			if honest && !Honest(p, a) {
				t.Fatalf("%v is not honest", a)
			}
			p, _ = Do(p, a)
		}
		readings += len(p.L)
		for _, name := range []string{"a", "b", "c", "d"} {
			back, coarse, far := Find(p, name)
			if back != -1 || coarse != -1 || honest && far != -1 {
				t.Fatalf("round %d, %q: %d, %d, %d in %v", round, name, back, coarse, far, audit.Seen(p.L, name))
			}
		}
	}
	if readings < 500 {
		t.Errorf("only %d readings", readings)
	}
}
