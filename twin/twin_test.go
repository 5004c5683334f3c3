package twin_test

import (
	"errors"
	"fmt"
	"math"
	"math/rand"
	"reflect"
	"slices"
	"testing"

	"fusee/api"
	"fusee/handoff"
	"fusee/host"
	"fusee/hyper"
	"fusee/leap"
	"fusee/message"
	"fusee/net"
	"fusee/policy"
	"fusee/prf"
	"fusee/ratio"
	"fusee/servo"
	"fusee/slot"
	"fusee/smear"
	"fusee/span"
	"fusee/tenant"
	. "fusee/twin"
	"fusee/zone"
)

const second = 1000000000

// alike tells whether two values are the same, where lists without elements are, too.
func alike(a, b any) bool { return fmt.Sprintf("%+v", a) == fmt.Sprintf("%+v", b) }

// code is the number of an error, 0 without one.
func code(err error) int {
	var e api.Errno
	if err == nil {
		return 0
	}
	if errors.As(err, &e) {
		return int(e)
	}
	return -1
}

// rule has one nanosecond a step, and slots of 100 steps.
func rule() hyper.Rule {
	return hyper.Rule{
		Clock:  host.Rule{Plain: ratio.Factor{Mult: 1 << 31, Shift: 31}, Rho: 1000, Gain: servo.Gain{P: 100, I: 10}, Limit: 1000, Most: 1 << 40},
		Margin: 500, Cap: 1 << 40, Keep: 1 << 40, Round: slot.Round{Steps: 100, L: []string{"a", "b", "c", "d"}},
	}
}

// who is a new tenant, with a smear that is not Step, and a rule of its zone.
func who(name string) tenant.Tenant {
	p := policy.Usual()
	p.Smear = smear.Smear{Kind: smear.Linear, Before: 1000, After: 1000}
	p.Quantum = 10
	p.Zone.L = []zone.Rule{{At: 1, Off: 2, Name: "z"}}
	return tenant.Tenant{Name: name, Key: prf.Key{1}, P: p}
}

func leaps() []byte {
	b, _ := leap.Encode(leap.Table{Base: 10, Last: 50000, L: []int64{100, 2000}})
	return b
}

// do is an act, which wants a code.
func do(t *testing.T, x Twin, a Act, want int) Twin {
	t.Helper()
	next, said := Do(x, a)
	if said.Code != want {
		t.Fatalf("%v: code %d, want %d", a, said.Code, want)
	}
	return next
}

// running are two hosts at 1000 seconds, with the tenants "a" (host 1) and "b" (host 0).
func running(t *testing.T) Twin {
	t.Helper()
	x, err := New(rule())
	if err != nil {
		t.Fatal(err)
	}
	for id := range 2 {
		x = do(t, x, Act{Kind: Learn, Host: id, B: leaps()}, 0)
		x = do(t, x, Act{Kind: Hear, Host: id, S: span.Span{Lo: 1000*second - 5, Hi: 1000*second + 5}}, 0)
	}
	x = do(t, x, Act{Kind: Create, Host: 1, T: who("a")}, 0)
	return do(t, x, Act{Kind: Create, Host: 0, T: who("b")}, 0)
}

func TestTW1New(t *testing.T) {
	x, err := New(rule())
	var want Twin
	for id := range 2 {
		want.H[id], _ = hyper.New(id, rule())
	}
	if !alike(x, want) || err != nil {
		t.Errorf("New: %v, %v", x, err)
	}
	r := rule()
	r.Cap = 0
	if x, err := New(r); !alike(x, Twin{}) || code(err) != 1 {
		t.Errorf("New with a wrong rule: %v, %v", x, err)
	}
}

func TestTW1Owners(t *testing.T) {
	x := running(t)
	both := x
	both.H[0].T.L = []handoff.Entry{{State: handoff.Owner, T: who("a")}}
	if got := Owners(both, "a"); !slices.Equal(got, []int{0, 1}) {
		t.Errorf("Owners of both: %v", got)
	}
	for name, want := range map[string][]int{"a": {1}, "b": {0}, "c": nil, "": nil} {
		if got := Owners(x, name); !slices.Equal(got, want) {
			t.Errorf("Owners(%q): %v", name, got)
		}
	}
	x = do(t, x, Act{Kind: Move, Host: 0, C: hyper.Call{Name: "b"}}, 0)
	if got := Owners(x, "b"); len(got) != 0 {
		t.Errorf("Owners under way: %v", got)
	}
	x = Calm(x, 1)
	if got := Owners(x, "b"); !slices.Equal(got, []int{1}) {
		t.Errorf("Owners after the move: %v", got)
	}
}

func TestTW1Calm(t *testing.T) {
	x := running(t)
	x = do(t, x, Act{Kind: Move, Host: 0, C: hyper.Call{Name: "b"}}, 0)
	x = do(t, x, Act{Kind: Say, Host: 0}, 0)
	for _, rounds := range []int{0, -1, math.MinInt} {
		if got := Calm(x, rounds); !alike(got, x) {
			t.Errorf("Calm of %d rounds", rounds)
		}
	}
	want := x
	for range 10 {
		for id := range 2 {
			want, _ = Do(want, Act{Kind: Say, Host: id})
		}
		for len(want.N.L) > 0 {
			want, _ = Do(want, Act{Kind: Come})
		}
	}
	for _, rounds := range []int{10, 11, math.MaxInt} {
		if got := Calm(x, rounds); !alike(got, want) {
			t.Errorf("Calm of %d rounds", rounds)
		}
	}
	// In the state Gone, a host commits again each round: more rounds can be told from less.
	one := Calm(x, 1)
	if len(one.N.L) != 0 || alike(one.H[0].T, x.H[0].T) {
		t.Errorf("Calm of one round: %v", one.N)
	}
}

func TestTW1CalmAtMost(t *testing.T) {
	x := running(t)
	x = do(t, x, Act{Kind: Move, Host: 0, C: hyper.Call{Name: "b"}}, 0)
	x = do(t, x, Act{Kind: Say, Host: 0}, 0)
	for len(x.N.L) < 32 {
		x = do(t, x, Act{Kind: Double}, 0)
	}
	// Each of the 32 offers is accepted, committed and done: of 128 letters, 100 come.
	if got := Calm(x, 1); len(got.N.L) != 28 {
		t.Errorf("%d letters are left", len(got.N.L))
	}
}

func TestTW2Errors(t *testing.T) {
	x := running(t)
	for _, kind := range []int{-1, 11, math.MinInt, math.MaxInt} {
		if got, a := Do(x, Act{Kind: kind, Down: true}); a != (hyper.Answer{Code: 1}) || !alike(got, x) {
			t.Errorf("kind %d: %v", kind, a)
		}
	}
	for _, kind := range []int{Hear, Learn, Create, Ask, Move, Say, Crash} {
		for _, id := range []int{-1, 2, math.MaxInt} {
			if got, a := Do(x, Act{Kind: kind, Host: id, B: leaps(), Down: true}); a != (hyper.Answer{Code: 1}) || !alike(got, x) {
				t.Errorf("kind %d on host %d: %v", kind, id, a)
			}
		}
	}
	for _, kind := range []int{Come, Lose, Double} {
		for _, n := range []int64{0, -1, math.MinInt64, math.MaxInt64} {
			if got, a := Do(x, Act{Kind: kind, Host: 9, N: n, Down: true}); a != (hyper.Answer{Code: 6}) || !alike(got, x) {
				t.Errorf("kind %d of no letter: %v", kind, a)
			}
		}
	}
}

func TestTW2Pass(t *testing.T) {
	x := running(t)
	got := do(t, x, Act{Kind: Pass, Host: 7, N: 55, Down: true}, 0)
	want := running(t)
	want.H[0].Counter, want.H[1].Counter = 55, 55
	if !alike(got, want) {
		t.Errorf("Pass: %v", got)
	}
	if got := do(t, x, Act{Kind: Pass, N: -1}, 1); !alike(got, x) {
		t.Error("Pass back changes something")
	}
	uneven := running(t)
	uneven.H[1].Counter = 1 << 60
	if got := do(t, uneven, Act{Kind: Pass, N: 1}, 2); !alike(got, uneven) {
		t.Error("Pass of one host only")
	}
}

// acts are acts on host 0, with a right result and with an error.
func acts() []Act {
	z, _ := zone.Encode(zone.Zone{Name: "x"})
	return []Act{
		{Kind: Hear, N: 3, S: span.Span{Lo: 5, Hi: 6}}, {Kind: Hear, N: 9}, {Kind: Hear, N: -1}, {Kind: Hear, S: span.Span{Lo: 1}},
		{Kind: Learn, B: leaps()}, {Kind: Learn},
		{Kind: Create, T: who("d")}, {Kind: Create, T: who("b")}, {Kind: Create},
		{Kind: Move, C: hyper.Call{Name: "b"}}, {Kind: Move, C: hyper.Call{Name: "a"}},
		{Kind: Ask, C: hyper.Call{Kind: hyper.Read, Name: "b"}}, {Kind: Ask, C: hyper.Call{Kind: hyper.Wall, Name: "b"}}, {Kind: Ask, C: hyper.Call{Kind: hyper.Zone, Name: "b", B: z}}, {Kind: Ask, C: hyper.Call{Kind: 77}},
		{Kind: Say},
	}
}

// did is a host behind an act, out of the layer below.
func did(h hyper.Host, a Act) (hyper.Host, [][]byte, hyper.Answer) {
	var err error
	var letters [][]byte
	switch a.Kind {
	case Hear:
		h, err = hyper.Hear(h, int(a.N), a.S)
	case Learn:
		h, err = hyper.Learn(h, a.B)
	case Create:
		h, err = hyper.Create(h, a.T)
	case Move:
		h, err = hyper.Move(h, a.C.Name)
	case Say:
		letters = hyper.Say(h)
	case Ask:
		next, said := hyper.Do(h, a.C)
		return next, nil, said
	}
	return h, letters, hyper.Answer{Code: code(err)}
}

func TestTW2Hosts(t *testing.T) {
	for i, a := range acts() {
		for _, down := range []bool{false, true} {
			x := running(t)
			x = do(t, x, Act{Kind: Pass, N: 110}, 0)
			x = do(t, x, Act{Kind: Create, Host: 0, T: who("f")}, 0)
			x = do(t, x, Act{Kind: Move, Host: 0, C: hyper.Call{Name: "f"}}, 0)
			x.H[0].K.L[0].Waits = x.H[0].K.L[0].Safe
			h, letters, said := did(x.H[0], a)
			want := x
			if down {
				a.Down, a.Keep = true, []bool{true, false}
				want.H[0], said = hyper.Crash(h, a.Keep), hyper.Answer{Code: -1}
			} else {
				want.H[0] = hyper.Settle(h)
				for _, b := range letters {
					want.N, _ = net.Send(want.N, net.Letter{To: 1, B: b})
				}
			}
			got, answer := Do(x, a)
			if answer != said || !alike(got, want) {
				t.Errorf("act %d, down %t: %v, %v; want %v, %v", i, down, answer, got, said, want)
			}
		}
	}
}

func TestTW2Letters(t *testing.T) {
	x := running(t)
	x = do(t, x, Act{Kind: Move, Host: 1, C: hyper.Call{Name: "a"}}, 0)
	x = do(t, x, Act{Kind: Say, Host: 1}, 0)
	if len(x.N.L) != 1 || x.N.L[0].To != 0 {
		t.Fatalf("Say: %v", x.N)
	}
	twice := do(t, x, Act{Kind: Double, Host: 5, Down: true}, 0)
	if len(twice.N.L) != 2 || !alike(twice.N.L[1], x.N.L[0]) || !alike(twice.H, x.H) {
		t.Errorf("Double: %v", twice.N)
	}
	lost := do(t, twice, Act{Kind: Lose, N: 1, Host: 5, Down: true}, 0)
	if !alike(lost, x) {
		t.Errorf("Lose: %v", lost.N)
	}
	came := do(t, x, Act{Kind: Come, Host: 5}, 0)
	h, replies, err := hyper.Letter(x.H[0], x.N.L[0].B)
	want := x
	want.H[0] = hyper.Settle(h)
	want.N.L = []net.Letter{{To: 1, B: replies[0]}}
	if err != nil || !alike(came, want) {
		t.Errorf("Come: %v", came)
	}
	crashed, said := Do(x, Act{Kind: Come, Down: true, Keep: []bool{true}})
	want.H[0] = hyper.Crash(h, []bool{true})
	if said != (hyper.Answer{Code: -1}) || len(crashed.N.L) != 0 || !alike(crashed.H, want.H) {
		t.Errorf("Come, and down: %v, %v", said, crashed)
	}
	x.N.L[0].B = []byte("nonsense")
	wrong := do(t, x, Act{Kind: Come}, 3)
	if len(wrong.N.L) != 0 || !alike(wrong.H, x.H) {
		t.Errorf("Come of nonsense: %v", wrong)
	}
}

func TestTW2Room(t *testing.T) {
	x := running(t)
	x = do(t, x, Act{Kind: Move, Host: 0, C: hyper.Call{Name: "b"}}, 0)
	x = do(t, x, Act{Kind: Create, Host: 0, T: who("d")}, 0)
	x = do(t, x, Act{Kind: Move, Host: 0, C: hyper.Call{Name: "d"}}, 0)
	for len(x.N.L) < 31 {
		x.N.L = append(x.N.L, net.Letter{To: 1, B: []byte{byte(len(x.N.L))}})
	}
	x = do(t, x, Act{Kind: Say, Host: 0}, 0)
	if len(x.N.L) != 32 {
		t.Fatalf("%d letters", len(x.N.L))
	}
	if m, err := message.Decode(x.N.L[31].B); err != nil || m.Name != "b" {
		t.Errorf("the last letter: %v, %v", m, err)
	}
	if _, a := Do(x, Act{Kind: Double, N: 3}); a.Code != 7 {
		t.Errorf("Double beyond: %v", a)
	}
}

func TestTW2Crash(t *testing.T) {
	x := running(t)
	for id := range 2 {
		x.H[id].K.L[0].Waits = x.H[id].K.L[0].Safe
		for _, kept := range [][]bool{nil, {true}} {
			want := x
			want.H[id] = hyper.Crash(x.H[id], kept)
			if got := do(t, x, Act{Kind: Crash, Host: id, Keep: kept, Down: true}, 0); !alike(got, want) {
				t.Errorf("Crash of %d", id)
			}
		}
	}
}

// scribble overwrites all that slices within a value hold, and have room for.
func scribble(v reflect.Value) {
	switch v.Kind() {
	case reflect.Struct:
		for i := range v.NumField() {
			scribble(v.Field(i))
		}
	case reflect.Array:
		for i := range v.Len() {
			scribble(v.Index(i))
		}
	case reflect.Slice:
		full := v.Slice(0, v.Cap())
		for i := range full.Len() {
			scribble(full.Index(i))
			full.Index(i).SetZero()
		}
	}
}

func TestTW2OwnMemory(t *testing.T) {
	prepared := func() Twin {
		x := running(t)
		x = do(t, x, Act{Kind: Move, Host: 0, C: hyper.Call{Name: "b"}}, 0)
		return do(t, x, Act{Kind: Say, Host: 0}, 0)
	}
	x, same := prepared(), prepared()
	all := append(acts(), Act{Kind: 99}, Act{Kind: Pass, N: 1}, Act{Kind: Pass, N: -1}, Act{Kind: Come}, Act{Kind: Come, N: 9}, Act{Kind: Lose}, Act{Kind: Double}, Act{Kind: Crash}, Act{Kind: Crash, Host: 4})
	check := func(i int, got Twin) {
		t.Helper()
		scribble(reflect.ValueOf(&got).Elem())
		if !alike(x, same) {
			t.Fatalf("act %d shares memory with its argument", i)
		}
	}
	for i, a := range all {
		got, _ := Do(x, a)
		check(i, got)
		a.Down = true
		got, _ = Do(x, a)
		check(i, got)
	}
	check(-1, Calm(x, 0))
	check(-2, Calm(x, 2))
	r := rule()
	fresh, _ := New(r)
	a, b := fresh.H[0].R.Round.L, fresh.H[1].R.Round.L
	a[0] = "!"
	if r.Round.L[0] != "a" || b[0] != "a" {
		t.Error("New shares memory")
	}
}

// wild is an act by chance.
func wild(r *rand.Rand, x Twin, names []string) Act {
	name := names[r.Intn(len(names))]
	a := Act{Kind: r.Intn(11), Host: r.Intn(2), C: hyper.Call{Name: name}, T: who(name), Down: r.Intn(15) == 0, Keep: []bool{r.Intn(2) == 0, r.Intn(2) == 0}}
	switch a.Kind {
	case Pass:
		a.N = r.Int63n(150)
	case Come, Lose, Double:
		a.N = r.Int63n(4)
	case Crash:
		if r.Intn(10) > 0 {
			a.Kind = Ask
		}
	case Hear:
		now := 1000*second + x.H[a.Host].Counter
		a.N, a.S = r.Int63n(3), span.Span{Lo: now - r.Int63n(300), Hi: now + r.Int63n(300)}
	case Learn:
		a.B = leaps()
	}
	if r.Intn(2) == 0 {
		a.Kind = Ask
	}
	if a.Kind == Ask {
		a.C.Name, _ = slot.Who(rule().Round, x.H[a.Host].Counter)
		a.C.Kind = []int{hyper.Read, hyper.Wall, hyper.Read, hyper.Quantum, hyper.Stop, hyper.Go}[r.Intn(6)]
		a.C.N = 1 + r.Int63n(50)
		if a.C.Kind == hyper.Stop && r.Intn(3) > 0 {
			a.C.Kind = hyper.Go
		}
	}
	return a
}

func TestTW3(t *testing.T) {
	r := rand.New(rand.NewSource(41))
	names := []string{"a", "b", "c", "d"}
	readings, moved := 0, 0
	for range 12 {
		x := running(t)
		last := map[string]int64{}
		for range 1500 {
			a := wild(r, x, names)
			next, said := Do(x, a)
			x = next
			if a.Kind == Ask && said.Code == 0 && (a.C.Kind == hyper.Read || a.C.Kind == hyper.Wall) {
				readings++
				before, ok := last[a.C.Name]
				if ok && said.R.Value < before {
					t.Fatalf("%q: %d behind %d", a.C.Name, said.R.Value, before)
				}
				last[a.C.Name] = said.R.Value
			}
			for _, name := range names {
				if l := Owners(x, name); len(l) > 1 {
					t.Fatalf("%q is served by both", name)
				} else if len(l) == 1 && l[0] != handoff.Home(name) {
					moved++
				}
			}
		}
		x = Calm(x, 10)
		for _, name := range names {
			known := slices.ContainsFunc(append(slices.Clone(x.H[0].T.L), x.H[1].T.L...), func(e handoff.Entry) bool { return e.T.Name == name })
			if known && len(Owners(x, name)) != 1 {
				t.Fatalf("%q is served by %v", name, Owners(x, name))
			}
		}
	}
	if readings < 100 || moved < 100 {
		t.Errorf("%d readings, %d times away from home", readings, moved)
	}
}
