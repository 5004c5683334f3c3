package handoff_test

import (
	"errors"
	"fmt"
	"math/rand"
	"slices"
	"testing"

	"fusee/api"
	"fusee/floor"
	. "fusee/handoff"
	"fusee/message"
	"fusee/policy"
	"fusee/prf"
	"fusee/tenant"
	"fusee/zone"
)

// alike tells whether two values are the same, where lists without elements are, too.
func alike(a, b any) bool { return fmt.Sprintf("%+v", a) == fmt.Sprintf("%+v", b) }

// code is the number of an error, 0 without one.
func code(err error) int {
	var e api.Errno
	if err == nil {
		return 0
	}
	if errors.As(err, &e) {
		return int(e)
	}
	return -1
}

// who is a tenant with a name and an epoch.
func who(name string, epoch int64) tenant.Tenant {
	p := policy.Usual()
	p.Zone.L = []zone.Rule{{At: 1, Off: 2, Name: "z"}}
	return tenant.Tenant{Name: name, Key: prf.Key{3}, P: p, Epoch: epoch}
}

func entry(state int, name string, epoch int64) Entry { return Entry{state, epoch, who(name, epoch)} }

// rules are so many rules.
func rules(n int) []zone.Rule {
	var l []zone.Rule
	for i := range n {
		l = append(l, zone.Rule{At: int64(i), Name: "z"})
	}
	return l
}

// some has an entry of each state.
func some() Table {
	return Table{0, []Entry{entry(Owner, "b", 3), entry(Offering, "d", 4), entry(Holding, "f", 5), entry(Gone, "h", 6)}}
}

// full has eight entries, of both homes.
func full(host int) Table {
	t := Table{Host: host}
	for _, name := range []string{"a", "b", "c", "d", "e", "f", "g", "h"} {
		t.L = append(t.L, entry(Owner, name, 0))
	}
	return t
}

func wrong() []Table {
	big := entry(Owner, "a", 0)
	big.T.P.Zone.L = rules(17)
	bad := entry(Owner, "a", 0)
	bad.T.P.Quantum = 0
	nine := full(0)
	nine.L = append(nine.L, entry(Owner, "i", 0))
	return []Table{
		{2, nil}, {-1, nil}, {2, some().L}, nine,
		{0, []Entry{entry(0, "a", 0)}}, {0, []Entry{entry(5, "a", 0)}}, {0, []Entry{entry(-1, "a", 0)}}, {0, []Entry{{Owner, 1, who("a", 0)}}}, {0, []Entry{{}}},
		{0, []Entry{entry(Owner, "a", -1)}}, {0, []Entry{entry(Owner, "", 0)}}, {0, []Entry{entry(Owner, "A", 0)}}, {0, []Entry{big}}, {0, []Entry{bad}},
		{0, []Entry{entry(Owner, "a", 0), entry(Owner, "a", 0)}}, {0, []Entry{entry(Owner, "b", 0), entry(Owner, "a", 0)}}, {0, []Entry{entry(Owner, "ab", 0), entry(Owner, "a", 0)}},
	}
}

// zero tells whether a table is none.
func zero(t Table) bool { return t.Host == 0 && len(t.L) == 0 }

func TestHA1Check(t *testing.T) {
	if Owner != 1 || Offering != 2 || Holding != 3 || Gone != 4 {
		t.Error("the states have other numbers")
	}
	for _, x := range []Table{{}, {1, nil}, some(), full(1), {0, []Entry{entry(Owner, "a", 1<<40), entry(Owner, "ab", 0)}}} {
		if Check(x) != nil {
			t.Errorf("Check(%v): %v", x, Check(x))
		}
	}
	for i, x := range wrong() {
		p, perr := Put(x, who("b", 0))
		o, oerr := Owned(x, "a")
		k, kerr := Keep(x, who("a", 0))
		s, serr := Start(x, "a")
		n, l, nerr := On(x, message.Message{Kind: message.Done, Epoch: 1, Name: "a"})
		codes := []int{code(Check(x)), code(perr), code(oerr), code(kerr), code(serr), code(nerr)}
		if !slices.Equal(codes, []int{1, 1, 1, 1, 1, 1}) || !zero(p) || !zero(k) || !zero(s) || !zero(n) || len(l) != 0 || !alike(o, tenant.Tenant{}) || len(Say(x)) != 0 {
			t.Errorf("%d: %v", i, codes)
		}
	}
}

func TestHA1Home(t *testing.T) {
	for name, want := range map[string]int{"": 0, "a": 1, "b": 0, "ab": 1, "ac": 0, "\xff": 1, "\xff\xff": 0, "0": 0, "1": 1} {
		if got := Home(name); got != want {
			t.Errorf("Home(%q): %d", name, got)
		}
	}
}

func TestHA1Put(t *testing.T) {
	big := who("j", 0)
	big.P.Zone.L = rules(17)
	three := Table{0, []Entry{entry(Gone, "b", 0), entry(Owner, "d", 0), entry(Holding, "f", 0), entry(Owner, "g", 0)}}
	four := Table{0, append(slices.Clone(three.L), entry(Gone, "h", 0))}
	for _, c := range []struct {
		name string
		t    Table
		x    tenant.Tenant
		want []string
		code int
	}{
		{"the first one", Table{}, who("b", 7), []string{"b"}, 0},
		{"in between", some(), who("ce", 0), []string{"b", "ce", "d", "f", "h"}, 9},
		{"the fourth of its home", three, who("bb", 0), []string{"b", "bb", "d", "f", "g"}, 0},
		{"the fifth of its home", four, who("bb", 0), nil, 7},
		{"not at its home", Table{1, nil}, who("b", 0), nil, 17},
		{"at the other home", Table{1, nil}, who("a", 0), []string{"a"}, 0},
		{"eight already", full(0), who("j", 0), nil, 7},
		{"there already", full(0), who("h", 0), nil, 8},
		{"there already, not at its home", full(0), who("a", 0), nil, 8},
		{"eight, and not at its home", full(0), who("i", 0), nil, 17},
		{"too large", Table{}, big, nil, 1},
		{"no tenant", full(0), tenant.Tenant{}, nil, 1},
	} {
		if c.name == "in between" {
			c.t.L, c.want, c.code = c.t.L[:3], []string{"b", "ce", "d", "f"}, 0
		}
		got, err := Put(c.t, c.x)
		if code(err) != c.code || c.code != 0 && !zero(got) {
			t.Errorf("%s: %v, %v", c.name, got, err)
			continue
		}
		var names []string
		for _, e := range got.L {
			names = append(names, e.T.Name)
			if e.T.Name == c.x.Name && !alike(e, Entry{Owner, c.x.Epoch, c.x}) {
				t.Errorf("%s: %v", c.name, e)
			}
		}
		if !slices.Equal(names, c.want) || got.Host != c.t.Host && c.code == 0 {
			t.Errorf("%s: %v", c.name, names)
		}
	}
}

func TestHA1OwnedAndKeep(t *testing.T) {
	for name, no := range map[string]int{"b": 0, "d": 17, "f": 17, "h": 17, "a": 6, "": 6, "bb": 6} {
		got, err := Owned(some(), name)
		if code(err) != no || no == 0 && !alike(got, who(name, 3)) || no != 0 && !alike(got, tenant.Tenant{}) {
			t.Errorf("Owned(%q): %v, %v", name, got, err)
		}
		if _, err := Start(some(), name); code(err) != no {
			t.Errorf("Start(%q): %v", name, err)
		}
	}
	x := who("b", 3)
	x.Floor = floor.Floor{Set: true, At: 9}
	got, err := Keep(some(), x)
	want := some()
	want.L[0].T = x
	if !alike(got, want) || err != nil {
		t.Errorf("Keep: %v, %v", got, err)
	}
	big := x
	big.P.Zone.L = rules(17)
	for _, c := range []struct {
		x    tenant.Tenant
		code int
	}{{who("b", 4), 19}, {who("b", 2), 19}, {who("d", 4), 17}, {who("d", 0), 17}, {who("a", 3), 6}, {big, 1}, {tenant.Tenant{}, 1}} {
		if got, err := Keep(some(), c.x); !zero(got) || code(err) != c.code {
			t.Errorf("Keep(%v): %v, %v", c.x, got, err)
		}
	}
}

func TestHA2(t *testing.T) {
	got, err := Start(some(), "b")
	want := some()
	want.L[0] = entry(Offering, "b", 4)
	if !alike(got, want) || err != nil {
		t.Errorf("Start: %v, %v", got, err)
	}
	last := Table{0, []Entry{entry(Owner, "b", 1<<40)}}
	if got, err := Start(last, "b"); !zero(got) || code(err) != 2 {
		t.Errorf("Start at the last epoch: %v, %v", got, err)
	}
	last.L[0] = entry(Owner, "b", 1<<40-1)
	if got, err := Start(last, "b"); err != nil || got.L[0].Epoch != 1<<40 || got.L[0].T.Epoch != 1<<40 {
		t.Errorf("Start at the last epoch but one: %v, %v", got, err)
	}
}

// told is a message about "b".
func told(kind uint8, epoch int64) message.Message {
	m := message.Message{Kind: kind, Epoch: epoch, Name: "b"}
	if kind == message.Offer {
		m.Tenant = who("b", epoch)
		m.Tenant.Key[7] = 77
	}
	return m
}

func TestHA3(t *testing.T) {
	// An entry with the epoch 5, or none (state 0), hears of the epochs 4, 5 and 6: what it becomes (0: what it was), and what is answered.
	type answer struct{ state, kind int }
	want := func(state int, kind uint8, epoch int64) answer {
		same := epoch == 5
		switch {
		case kind == message.Offer && (state == 0 || state == Gone && epoch == 6):
			return answer{Holding, message.Accept}
		case kind == message.Offer && same && (state == Holding || state == Owner):
			return answer{0, message.Accept}
		case kind == message.Accept && same && state == Offering:
			return answer{Gone, message.Commit}
		case kind == message.Accept && same && state == Gone:
			return answer{0, message.Commit}
		case kind == message.Commit && same && state == Holding:
			return answer{Owner, message.Done}
		case kind == message.Commit && same && state == Owner:
			return answer{0, message.Done}
		}
		return answer{}
	}
	for state := 0; state <= Gone; state++ {
		for kind := uint8(message.Offer); kind <= message.Done; kind++ {
			for epoch := int64(4); epoch <= 6; epoch++ {
				x := Table{1, []Entry{entry(Owner, "a", 1), entry(Offering, "c", 2)}}
				if state > 0 {
					x.L = slices.Insert(x.L, 1, entry(state, "b", 5))
				}
				due := x
				m := told(kind, epoch)
				w := want(state, kind, epoch)
				if w.state > 0 {
					e := entry(w.state, "b", 5)
					if kind == message.Offer {
						e = Entry{w.state, epoch, m.Tenant}
					}
					due.L = slices.DeleteFunc(slices.Clone(x.L), func(e Entry) bool { return e.T.Name == "b" })
					due.L = slices.Insert(due.L, 1, e)
				}
				var replies []message.Message
				if w.kind > 0 {
					replies = []message.Message{{Kind: uint8(w.kind), Epoch: epoch, Name: "b"}}
				}
				got, l, err := On(x, m)
				if !alike(got, due) || !alike(l, replies) || err != nil {
					t.Errorf("state %d, kind %d, epoch %d: %v, %v, %v; want %v, %v", state, kind, epoch, got, l, err, due, replies)
				}
			}
		}
	}
}

func TestHA3Room(t *testing.T) {
	seven := full(0)
	seven.L = seven.L[1:]
	m := message.Message{Kind: message.Offer, Name: "a", Tenant: who("a", 0)}
	if got, l, err := On(seven, m); len(got.L) != 8 || got.L[0].State != Holding || len(l) != 1 || err != nil {
		t.Errorf("the eighth entry: %v, %v, %v", got, l, err)
	}
	m.Name, m.Tenant = "i", who("i", 0)
	if got, l, err := On(full(0), m); !alike(got, full(0)) || len(l) != 0 || err != nil {
		t.Errorf("the ninth entry: %v, %v, %v", got, l, err)
	}
	gone := full(0)
	gone.L[2] = entry(Gone, "c", 3)
	m = message.Message{Kind: message.Offer, Epoch: 4, Name: "c", Tenant: who("c", 4)}
	if got, l, err := On(gone, m); len(got.L) != 8 || !alike(got.L[2], entry(Holding, "c", 4)) || len(l) != 1 || err != nil {
		t.Errorf("an entry that is gone, of eight: %v, %v, %v", got, l, err)
	}
	for _, m := range []message.Message{{}, {Kind: 5, Epoch: 1, Name: "a"}, {Kind: message.Offer, Epoch: 1, Name: "a"}, {Kind: message.Accept, Epoch: -1, Name: "a"}} {
		if got, l, err := On(some(), m); !zero(got) || len(l) != 0 || code(err) != 1 {
			t.Errorf("On(%v): %v, %v, %v", m, got, l, err)
		}
	}
}

func TestHA4(t *testing.T) {
	want := []message.Message{{Kind: message.Offer, Epoch: 4, Name: "d", Tenant: who("d", 4)}, {Kind: message.Accept, Epoch: 5, Name: "f"}, {Kind: message.Commit, Epoch: 6, Name: "h"}}
	if got := Say(some()); !alike(got, want) {
		t.Errorf("Say: %v", got)
	}
	if got := Say(full(0)); len(got) != 0 {
		t.Errorf("Say of owners: %v", got)
	}
}

func TestHA4OwnMemory(t *testing.T) {
	x := some()
	offer := message.Message{Kind: message.Offer, Epoch: 7, Name: "h", Tenant: who("h", 7)}
	p, _ := Put(Table{1, x.L}, who("a", 0))
	o, _ := Owned(x, "b")
	k, _ := Keep(x, who("b", 3))
	s, _ := Start(x, "b")
	n, _, _ := On(x, offer)
	same, _, _ := On(x, message.Message{Kind: message.Done, Epoch: 1, Name: "b"})
	for _, l := range [][]Entry{p.L, k.L, s.L, n.L, same.L, {{T: o}}, {{T: Say(x)[0].Tenant}}} {
		for i := range l {
			l[i].State = 99
			l[i].T.P.Zone.L[0].At = 99
		}
	}
	if !alike(x, some()) || offer.Tenant.P.Zone.L[0].At != 1 {
		t.Error("memory is shared")
	}
}

// world are two tables, and the messages under way to each.
type world struct {
	t    [2]Table
	wire [2][]message.Message
}

// come lets a host hear a message.
func (w *world) come(t *testing.T, host int, m message.Message) {
	next, l, err := On(w.t[host], m)
	if err != nil {
		t.Fatal(err)
	}
	w.t[host] = next
	w.wire[1-host] = append(w.wire[1-host], l...)
}

// owners are how many hosts own a tenant.
func (w *world) owners(name string) int {
	n := 0
	for _, x := range w.t {
		if _, err := Owned(x, name); err == nil {
			n++
		}
	}
	return n
}

// knows tells whether a host has an entry of a tenant.
func (w *world) knows(name string) bool {
	for _, x := range w.t {
		if _, err := Owned(x, name); code(err) != 6 {
			return true
		}
	}
	return false
}

// act does something by chance.
func (w *world) act(t *testing.T, r *rand.Rand, names []string) {
	host, name := r.Intn(2), names[r.Intn(len(names))]
	switch r.Intn(6) {
	case 0:
		if next, err := Put(w.t[host], who(name, 0)); err == nil && w.owners(name) == 0 {
			w.t[host] = next
		}
	case 1:
		if next, err := Start(w.t[host], name); err == nil {
			w.t[host] = next
		}
	case 2:
		w.wire[1-host] = append(w.wire[1-host], Say(w.t[host])...)
	default:
		if len(w.wire[host]) == 0 {
			return
		}
		i := r.Intn(len(w.wire[host]))
		m := w.wire[host][i]
		if r.Intn(3) > 0 {
			w.wire[host] = slices.Delete(w.wire[host], i, i+1)
		}
		if r.Intn(4) > 0 {
			w.come(t, host, m)
		}
	}
	for host := range w.wire {
		if len(w.wire[host]) > 60 {
			w.wire[host] = w.wire[host][30:]
		}
	}
}

func TestHA5(t *testing.T) {
	r := rand.New(rand.NewSource(37))
	names := []string{"a", "b", "c", "d"}
	for round := range 20 {
		w := &world{t: [2]Table{{Host: 0}, {Host: 1}}}
		for range 300 {
			w.act(t, r, names)
			for _, name := range names {
				if w.owners(name) > 1 {
					t.Fatalf("round %d: %q has two owners: %v", round, name, fmt.Sprint(w.t))
				}
			}
		}
		for range 4 {
			for host := range 2 {
				w.wire[1-host] = append(w.wire[1-host], Say(w.t[host])...)
			}
			for len(w.wire[0])+len(w.wire[1]) > 0 {
				for host := range 2 {
					if len(w.wire[host]) > 0 {
						m := w.wire[host][0]
						w.wire[host] = w.wire[host][1:]
						w.come(t, host, m)
					}
				}
			}
		}
		for _, name := range names {
			if w.knows(name) && w.owners(name) != 1 {
				t.Fatalf("round %d: %q has %d owners", round, name, w.owners(name))
			}
		}
	}
}
