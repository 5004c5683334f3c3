package keep_test

import (
	"bytes"
	"errors"
	"fmt"
	"math"
	"math/rand"
	"slices"
	"strings"
	"testing"

	"fusee/api"
	"fusee/blob"
	"fusee/floor"
	"fusee/handoff"
	. "fusee/keep"
	"fusee/message"
	"fusee/policy"
	"fusee/prf"
	"fusee/tenant"
	"fusee/zone"
)

// alike tells whether two values are the same, where lists without elements are, too.
func alike(a, b any) bool { return fmt.Sprintf("%+v", a) == fmt.Sprintf("%+v", b) }

// code is the number of an error, 0 without one.
func code(err error) int {
	var e api.Errno
	if err == nil {
		return 0
	}
	if errors.As(err, &e) {
		return int(e)
	}
	return -1
}

func record(name, safe, waits string) Record { return Record{name, []byte(safe), []byte(waits)} }

// is tells whether a store has just these records.
func is(s Store, l ...Record) bool {
	return slices.EqualFunc(s.L, l, func(a, b Record) bool {
		return a.Name == b.Name && bytes.Equal(a.Safe, b.Safe) && bytes.Equal(a.Waits, b.Waits)
	})
}

func some() Store {
	return Store{[]Record{record("a", "old", "new"), record("b", "", "b"), record("c", "c", ""), record("d\xff", "x", "y")}}
}

// full has eight records.
func full() Store {
	var s Store
	for _, name := range []string{"a", "b", "c", "d", "e", "f", "g", "h"} {
		s.L = append(s.L, record(name, "s", ""))
	}
	return s
}

func wrong() []Store {
	long := strings.Repeat("x", 1034)
	return []Store{
		{append(full().L, record("i", "s", ""))}, {[]Record{record("", "s", "")}}, {[]Record{record("0123456789abc", "s", "")}}, {[]Record{record("a", "", "")}},
		{[]Record{record("a", long, "")}}, {[]Record{record("a", "", long)}}, {[]Record{record("a", "s", ""), record("a", "s", "")}}, {[]Record{record("b", "s", ""), record("a", "s", "")}},
	}
}

func TestKE1Check(t *testing.T) {
	most := strings.Repeat("x", 1033)
	for _, s := range []Store{{}, some(), full(), {[]Record{record("0123456789ab", most, most)}}} {
		if Check(s) != nil {
			t.Errorf("Check: %v", Check(s))
		}
	}
	for i, s := range wrong() {
		p, perr := Put(s, "", nil)
		y, yerr := Sync(s)
		c, cerr := Crash(s, nil)
		g, gerr := Get(s, "nobody")
		v, verr := Save(s, handoff.Table{}, 0)
		l, lerr := Load(s, 0)
		codes := []int{code(Check(s)), code(perr), code(yerr), code(cerr), code(gerr), code(verr), code(lerr)}
		if !slices.Equal(codes, []int{1, 1, 1, 1, 1, 1, 1}) || len(p.L) != 0 || len(y.L) != 0 || len(c.L) != 0 || len(g) != 0 || len(v.L) != 0 || len(l.L) != 0 {
			t.Errorf("%d: %v", i, codes)
		}
	}
}

func TestKE1Put(t *testing.T) {
	most := strings.Repeat("x", 1033)
	for _, c := range []struct {
		s    Store
		name string
		b    string
		want []Record
		code int
	}{
		{Store{}, "m", "1", []Record{record("m", "", "1")}, 0},
		{some(), "a", "1", append([]Record{record("a", "old", "1")}, some().L[1:]...), 0},
		{some(), "0", "1", append([]Record{record("0", "", "1")}, some().L...), 0},
		{some(), "bb", "1", slices.Insert(some().L, 2, record("bb", "", "1")), 0},
		{some(), "z", most, append(some().L, record("z", "", most)), 0},
		{some(), "c", "1", slices.Replace(some().L, 2, 3, record("c", "c", "1")), 0},
		{full(), "h", "1", slices.Replace(full().L, 7, 8, record("h", "s", "1")), 0},
		{full(), "a", "1", slices.Replace(full().L, 0, 1, record("a", "s", "1")), 0},
		{full(), "i", "1", nil, 7}, {full(), "", "1", nil, 1},
		{some(), "", "1", nil, 1}, {some(), "0123456789abc", "1", nil, 1}, {some(), "a", "", nil, 1}, {some(), "a", most + "x", nil, 1},
	} {
		if got, err := Put(c.s, c.name, []byte(c.b)); !is(got, c.want...) || code(err) != c.code {
			t.Errorf("Put(%v, %q): %v, %v", c.s, c.name, got, err)
		}
	}
}

func TestKE1SyncAndCrash(t *testing.T) {
	all := []Record{record("a", "new", ""), record("b", "b", ""), record("c", "c", ""), record("d\xff", "y", "")}
	if got, err := Sync(some()); !is(got, all...) || err != nil {
		t.Errorf("Sync: %v, %v", got, err)
	}
	for _, c := range []struct {
		kept []bool
		want []Record
	}{
		{nil, []Record{record("a", "old", ""), record("c", "c", ""), record("d\xff", "x", "")}},
		{[]bool{true, true, true}, all}, {[]bool{true, true, true, true, true}, all},
		{[]bool{true}, []Record{record("a", "new", ""), record("c", "c", ""), record("d\xff", "x", "")}},
		{[]bool{false, true}, []Record{record("a", "old", ""), record("b", "b", ""), record("c", "c", ""), record("d\xff", "x", "")}},
		{[]bool{false, false, true}, []Record{record("a", "old", ""), record("c", "c", ""), record("d\xff", "y", "")}},
	} {
		if got, err := Crash(some(), c.kept); !is(got, c.want...) || err != nil {
			t.Errorf("Crash(%v): %v, %v", c.kept, got, err)
		}
	}
	one, _ := Put(Store{}, "a", []byte("1"))
	if got, err := Crash(one, nil); !is(got) || err != nil {
		t.Errorf("Crash that keeps nothing: %v, %v", got, err)
	}
}

func TestKE1Get(t *testing.T) {
	for name, want := range map[string]string{"a": "old", "c": "c", "d\xff": "x"} {
		if got, err := Get(some(), name); string(got) != want || err != nil {
			t.Errorf("Get(%q): %q, %v", name, got, err)
		}
	}
	for _, name := range []string{"b", "", "z", "0123456789abc"} {
		if got, err := Get(some(), name); len(got) != 0 || code(err) != 6 {
			t.Errorf("Get(%q): %q, %v", name, got, err)
		}
	}
}

func TestKE1OwnMemory(t *testing.T) {
	s, b := some(), []byte("bytes")
	put, _ := Put(s, "e", b)
	synced, _ := Sync(s)
	crashed, _ := Crash(s, []bool{true, true})
	got, _ := Get(s, "a")
	saved, _ := Save(s, handoff.Table{}, 0)
	for _, x := range []Store{put, synced, crashed, saved, {[]Record{{"", got, nil}}}} {
		for i := range x.L {
			for j := range x.L[i].Safe {
				x.L[i].Safe[j] = '!'
			}
			for j := range x.L[i].Waits {
				x.L[i].Waits[j] = '!'
			}
			x.L[i].Name = "!"
		}
	}
	if !is(s, some().L...) || string(b) != "bytes" {
		t.Errorf("memory is shared: %v, %q", s, b)
	}
}

// entry is one with a floor.
func entry(state int, name string, epoch int64, f floor.Floor) handoff.Entry {
	p := policy.Usual()
	p.Quantum = 10
	p.Zone.L = []zone.Rule{{At: 1, Off: 2, Name: "z"}}
	return handoff.Entry{State: state, Epoch: epoch, T: tenant.Tenant{Name: name, Key: prf.Key{3}, P: p, Floor: f, Epoch: epoch}}
}

// sealed is the blob of an entry as it is.
func sealed(e handoff.Entry) []byte {
	packed, _ := message.Pack(e.T)
	b, _ := blob.Seal(4, append([]byte{byte(e.State)}, packed...))
	return b
}

func TestKE2Entry(t *testing.T) {
	at := func(n int64) floor.Floor { return floor.Floor{Set: true, At: n} }
	for _, c := range []struct {
		e      handoff.Entry
		margin int64
		want   floor.Floor
		code   int
	}{
		{entry(handoff.Owner, "a", 5, at(50)), 0, at(50), 0}, {entry(handoff.Owner, "a", 5, at(50)), 1, at(60), 0}, {entry(handoff.Owner, "a", 5, at(50)), 1 << 60, at((1<<60 + 50 + 9) / 10 * 10), 0},
		{entry(handoff.Owner, "a", 5, floor.Floor{}), 77, floor.Floor{}, 0},
		{entry(handoff.Offering, "a", 5, at(50)), 77, at(50), 0}, {entry(handoff.Holding, "a", 5, at(50)), 77, at(50), 0}, {entry(handoff.Gone, "a", 5, at(50)), 77, at(50), 0},
		{entry(handoff.Owner, "a", 5, at(math.MaxInt64/10*10)), 8, floor.Floor{}, 2}, {entry(handoff.Gone, "a", 5, at(math.MaxInt64/10*10)), 8, at(math.MaxInt64 / 10 * 10), 0},
		{entry(handoff.Owner, "a", 5, at(50)), -1, floor.Floor{}, 1}, {entry(handoff.Gone, "a", 5, at(50)), 1<<60 + 1, floor.Floor{}, 1}, {entry(handoff.Owner, "a", 5, at(5)), 0, floor.Floor{}, 1},
		{entry(0, "a", 5, at(50)), 0, floor.Floor{}, 1}, {entry(5, "a", 5, at(50)), 0, floor.Floor{}, 1}, {entry(257, "a", 5, at(50)), 0, floor.Floor{}, 1}, {entry(handoff.Owner, "A", 5, at(50)), 0, floor.Floor{}, 1}, {handoff.Entry{}, 0, floor.Floor{}, 1},
		{handoff.Entry{State: handoff.Owner, Epoch: 4, T: entry(1, "a", 5, at(50)).T}, 0, floor.Floor{}, 1},
	} {
		got, err := Entry(c.e, c.margin)
		if c.code != 0 {
			if len(got) != 0 || code(err) != c.code {
				t.Errorf("Entry(%v, %d): %x, %v", c.e, c.margin, got, err)
			}
			continue
		}
		want := c.e
		want.T.Floor = c.want
		if !bytes.Equal(got, sealed(want)) || err != nil {
			t.Errorf("Entry(%v, %d): %x, %v", c.e, c.margin, got, err)
		}
		if back, err := Open(got); !alike(back, want) || err != nil {
			t.Errorf("Open: %v, %v; want %v", back, err, want)
		}
	}
}

func TestKE2Open(t *testing.T) {
	e := entry(handoff.Owner, "a", 5, floor.Floor{})
	packed, _ := message.Pack(e.T)
	wrap := func(kind uint8, b []byte) []byte {
		out, _ := blob.Seal(kind, b)
		return out
	}
	wrongSum := sealed(e)
	wrongSum[9]++
	for name, c := range map[string]struct {
		b    []byte
		code int
	}{
		"nothing": {nil, 3}, "no content": {wrap(4, nil), 3}, "only a state": {wrap(4, []byte{1}), 3}, "another kind": {wrap(2, append([]byte{1}, packed...)), 3}, "a wrong sum": {wrongSum, 4},
		"state 0": {wrap(4, append([]byte{0}, packed...)), 3}, "state 5": {wrap(4, append([]byte{5}, packed...)), 3}, "no state": {wrap(4, packed), 3},
		"a byte more": {wrap(4, append(append([]byte{1}, packed...), 0)), 3}, "a byte less": {wrap(4, append([]byte{1}, packed[:len(packed)-1]...)), 3},
	} {
		if got, err := Open(c.b); !alike(got, handoff.Entry{}) || code(err) != c.code {
			t.Errorf("%s: %v, %v", name, got, err)
		}
	}
}

func TestKE3Save(t *testing.T) {
	f := floor.Floor{Set: true, At: 50}
	a, b := entry(handoff.Owner, "a", 5, f), entry(handoff.Gone, "b", 6, f)
	table := handoff.Table{Host: 1, L: []handoff.Entry{a, b}}
	ea, _ := Entry(a, 7)
	eb, _ := Entry(b, 7)
	if got, err := Save(Store{}, table, 7); !is(got, Record{"a", nil, ea}, Record{"b", nil, eb}) || err != nil {
		t.Errorf("Save: %v, %v", got, err)
	}
	for _, c := range []struct{ before, after Record }{
		{Record{"a", ea, nil}, Record{"a", ea, nil}},
		{Record{"a", nil, ea}, Record{"a", nil, ea}},
		{Record{"a", ea, eb}, Record{"a", ea, ea}},
		{Record{"a", eb, ea}, Record{"a", eb, ea}},
		{Record{"a", eb, nil}, Record{"a", eb, ea}},
	} {
		if got, err := Save(Store{[]Record{c.before}}, handoff.Table{L: table.L[:1]}, 7); !is(got, c.after) || err != nil {
			t.Errorf("Save over %v: %v, %v", c.before, got, err)
		}
	}
	high := entry(handoff.Owner, "a", 5, floor.Floor{Set: true, At: math.MaxInt64 / 10 * 10})
	names := Store{[]Record{record("0", "s", ""), record("1", "s", ""), record("2", "s", ""), record("3", "s", ""), record("4", "s", ""), record("5", "s", ""), record("6", "s", ""), record("7", "s", "")}}
	for _, c := range []struct {
		name   string
		s      Store
		t      handoff.Table
		margin int64
		code   int
	}{
		{"nothing to save", Store{}, handoff.Table{}, -1, 0}, {"no room", names, table, 7, 7}, {"no margin", Store{}, table, -1, 1}, {"too high", Store{}, handoff.Table{L: []handoff.Entry{high, b}}, 8, 2},
		{"too high, and no room", names, handoff.Table{L: []handoff.Entry{high, b}}, 8, 2}, {"no table", Store{}, handoff.Table{Host: 2}, 7, 1},
		{"no room, and then too high", names, handoff.Table{L: []handoff.Entry{a, entry(handoff.Owner, "c", 5, high.T.Floor)}}, 8, 7},
	} {
		if got, err := Save(c.s, c.t, c.margin); code(err) != c.code || len(got.L) != 0 {
			t.Errorf("%s: %v, %v", c.name, got, err)
		}
	}
}

func TestKE3Load(t *testing.T) {
	a, b := entry(handoff.Owner, "a", 5, floor.Floor{}), entry(handoff.Gone, "b", 6, floor.Floor{})
	s := Store{[]Record{{"a", sealed(a), []byte("waits")}, {"ab", nil, sealed(a)}, {"b", sealed(b), nil}}}
	for host := range 2 {
		if got, err := Load(s, host); !alike(got, handoff.Table{Host: host, L: []handoff.Entry{a, b}}) || err != nil {
			t.Errorf("Load: %v, %v", got, err)
		}
	}
	for _, c := range []struct {
		s    Store
		host int
		code int
	}{
		{s, 2, 1}, {s, -1, 1}, {Store{[]Record{{"c", sealed(a), nil}}}, 0, 3}, {Store{[]Record{record("a", "bytes", "")}}, 0, 3}, {Store{[]Record{record("a", "bytes", "")}}, 2, 1},
	} {
		if got, err := Load(c.s, c.host); len(got.L) != 0 || got.Host != 0 || code(err) != c.code {
			t.Errorf("Load(%v, %d): %v, %v", c.s, c.host, got, err)
		}
	}
}

func TestKE4(t *testing.T) {
	r := rand.New(rand.NewSource(38))
	for range 300 {
		var table handoff.Table
		for _, name := range []string{"a", "b", "c"} {
			table.L = append(table.L, entry(1+r.Intn(4), name, r.Int63n(9), floor.Floor{Set: true, At: 10 * r.Int63n(1<<40)}))
		}
		first, err := Save(Store{}, table, r.Int63n(1<<30))
		if err != nil {
			t.Fatal(err)
		}
		first, _ = Sync(first)
		later := table
		later.L = slices.Clone(table.L)
		for i := range later.L {
			later.L[i].T.Floor.At += 10 << 50
		}
		second, serr := Save(first, later, 100)
		kept := []bool{r.Intn(2) == 0, r.Intn(2) == 0, r.Intn(2) == 0}
		crashed, err := Crash(second, kept[:r.Intn(4)])
		got, lerr := Load(crashed, 0)
		if err != nil || serr != nil || lerr != nil || len(got.L) != 3 {
			t.Fatalf("%v, %v, %v", got, err, lerr)
		}
		for i, e := range got.L {
			if e.T.Floor.At < table.L[i].T.Floor.At || e.State != table.L[i].State || e.Epoch != table.L[i].Epoch {
				t.Fatalf("%v became %v", table.L[i], e)
			}
		}
		synced, _ := Sync(second)
		got, err = Load(synced, 1)
		for i, e := range got.L {
			if err != nil || e.T.Floor.At < later.L[i].T.Floor.At {
				t.Fatalf("%v became %v, %v", later.L[i], e, err)
			}
		}
	}
}
