package house_test

import (
	"errors"
	"fmt"
	"math/rand"
	"strings"
	"testing"

	"fusee/api"
	"fusee/fuzz"
	"fusee/host"
	. "fusee/house"
	"fusee/hyper"
	"fusee/leap"
	"fusee/policy"
	"fusee/prf"
	"fusee/ratio"
	"fusee/servo"
	"fusee/slot"
	"fusee/smear"
	"fusee/span"
	"fusee/tenant"
	"fusee/twin"
	"fusee/zone"
)

// code is the number of an error, 0 without one.
func code(err error) int {
	var e api.Errno
	if err == nil {
		return 0
	}
	if errors.As(err, &e) {
		return int(e)
	}
	return -1
}

// start has one nanosecond a step, and slots of 100 steps.
const start = "rule 2147483648 31 1000 100 10 1000 1099511627776 500 1099511627776 1099511627776 100\nround a b - c\n"

// begun is start, with leap seconds, a time, and the tenants "a" and "b".
const begun = start + "learn 0 10 50000 100\nlearn 1 10 50000 100\nhear 0 0 999 1001\nhear 1 0 999 1001\ncreate 1 a 0102\ncreate 0 b -\n"

// play is what a script tells.
func play(t *testing.T, s string) string {
	t.Helper()
	out, n, err := Play(s)
	if n != 0 || err != nil {
		t.Fatalf("Play(%q): %d, %v", s, n, err)
	}
	return out
}

// rest is what a script tells behind begun.
func rest(t *testing.T, s string) string {
	t.Helper()
	return strings.TrimPrefix(play(t, begun+s), play(t, begun))
}

func rule() hyper.Rule {
	return hyper.Rule{
		Clock:  host.Rule{Plain: ratio.Factor{Mult: 1 << 31, Shift: 31}, Rho: 1000, Gain: servo.Gain{P: 100, I: 10}, Limit: 1000, Most: 1 << 40},
		Margin: 500, Cap: 1 << 40, Keep: 1 << 40, Round: slot.Round{Steps: 100, L: []string{"a", "b", "", "c"}},
	}
}

func TestHS1(t *testing.T) {
	if out := play(t, "say 0"); out != "error 1\n" {
		t.Errorf("say 0: %q", out)
	}
	if out := play(t, ""); out != "" {
		t.Errorf("nothing: %q", out)
	}
	if out := play(t, begun); out != "ok\nok\n"+strings.Repeat("code 0\n", 6) {
		t.Errorf("begun: %q", out)
	}
	line := strings.Repeat("x", 65537)
	for _, c := range []struct {
		s    string
		n    int
		code int
	}{{"say 0\n\nsay x\n", 3, 337}, {line, 0, 5}, {"wrong", 1, 337}, {strings.Repeat("wire\n", 1001), 1001, 337}} {
		if out, n, err := Play(c.s); out != "" || n != c.n || code(err) != c.code {
			t.Errorf("Play(%.20q): %q, %d, %v", c.s, out, n, err)
		}
	}
}

func TestHS1TooLong(t *testing.T) {
	show := len(rest(t, "page 0\n"))
	head := len(play(t, begun))
	many := (65536-head)/show - 1
	gap := 65536 - head - many*show
	script := begun + strings.Repeat("page 0\n", many)
	// Lines of 8 bytes (error 1) and 3 (ok) fill the rest to the byte.
	for gap%3 != 0 {
		script += "show 9\n"
		gap -= len("error 1\n")
	}
	script += strings.Repeat("down 0\n", gap/3)
	out := play(t, script)
	if len(out) != 65536 {
		t.Fatalf("%d bytes", len(out))
	}
	commands := strings.Count(script, "\n")
	if out, n, err := Play(script + "wire\nwire\ndown 0\nwire\n"); out != "" || n != commands+3 || code(err) != 5 {
		t.Errorf("beyond: %d bytes, %d of %d, %v", len(out), n, commands, err)
	}
	if out := play(t, script+"wire\n"); len(out) != 65536 {
		t.Errorf("with nothing more: %d bytes", len(out))
	}
}

func TestHS2(t *testing.T) {
	x, _ := twin.New(rule())
	if out := play(t, start+"show 0\nshow 1\npage 1\nwire\n"); out != "ok\nok\n"+shown(x, 0)+shown(x, 1)+paged(x, 1) {
		t.Errorf("start: %q", out)
	}
	for s, want := range map[string]string{
		"round a":                     "error 1\n",
		"rule 0 0 0 0 0 0 0 0 0 0 0":  "ok\n",
		"down -\ndown 01":             "ok\nok\n",
		"calm 1":                      "error 1\n",
		"owners a":                    "error 1\n",
		"show 0":                      "error 1\n",
		"page 0":                      "error 1\n",
		"wire":                        "error 1\n",
		"pass 1\nread 0 a\ncrash 0 -": strings.Repeat("error 1\n", 3),
		start + "round " + strings.Repeat("a ", 17) + "\nowners a":          "ok\nok\nerror 1\nowners -\n",
		start + "round abcdefghijklm\nround " + strings.Repeat("abcd ", 16): "ok\nok\nerror 1\nok\n",
		start + "calm 3\ncalm -5\ncalm 9223372036854775807":                 "ok\nok\nok\nok\nok\n",
		strings.Replace(start, "2147483648", "6442450944", 1):               "ok\nok\n",
		strings.Replace(start, "2147483648", "-2147483648", 1):              "ok\nok\n",
		strings.Replace(start, "2147483648", "4294967296", 1):               "ok\nerror 1\n",
		strings.Replace(start, " 31 ", " 32 ", 1):                           "ok\nerror 1\n",
		strings.Replace(start, " 31 ", " 4294967327 ", 1):                   "ok\nerror 1\n",
	} {
		if out := play(t, s); out != want {
			t.Errorf("%q: %q", s, out)
		}
	}
	// A round that fails, or a rule alone, leaves the hosts as they are; a round that does not begins anew.
	kept := rest(t, "rule 0 0 0 0 0 0 0 0 0 0 0\nround z\nshow 0\nowners a\n")
	if kept != "ok\nerror 1\n"+rest(t, "show 0\nowners a\n") {
		t.Errorf("a round that fails: %q", kept)
	}
	if anew := rest(t, "round a\nshow 0\nowners a\n"); anew != "ok\nhost 0 0 0 0\nowners -\n" {
		t.Errorf("a round: %q", anew)
	}
}

func TestHS2Rule(t *testing.T) {
	// Each number of the rule has its own bound: one more makes the round fail.
	most := []string{"4294967295", "31", "1048576", "1024", "1024", "1048576", "1125899906842624", "1125899906842624", "1125899906842624", "1125899906842624", "1073741824"}
	for i := range most {
		for _, over := range []bool{false, true} {
			words := append([]string{}, most...)
			want := "ok\nok\n"
			if over {
				var n int64
				fmt.Sscan(words[i], &n)
				words[i] = fmt.Sprint(n + 1)
				want = "ok\nerror 1\n"
			}
			if out := play(t, "rule "+strings.Join(words, " ")+"\nround a\n"); out != want {
				t.Errorf("number %d, %t: %q", i, over, out)
			}
		}
	}
}

// shown is what show tells.
func shown(x twin.Twin, id int) string {
	h := x.H[id]
	bit := func(b bool) int {
		if b {
			return 1
		}
		return 0
	}
	s := fmt.Sprintf("host %d %d %d %d\n", h.Id, h.Counter, bit(h.Clock.Synced), h.Epoch)
	for _, e := range h.T.L {
		s += fmt.Sprintf("tenant %d %d %s %d %d %d %d\n", e.State, e.Epoch, e.T.Name, bit(e.T.Floor.Set), e.T.Floor.At, bit(e.T.Pause.On), e.T.Pause.Lost)
	}
	for _, r := range h.K.L {
		s += fmt.Sprintf("kept %s %d %d\n", r.Name, len(r.Safe), len(r.Waits))
	}
	return s
}

// paged is what page tells.
func paged(x twin.Twin, id int) string {
	return "page " + strings.Trim(fmt.Sprint(x.H[id].Page), "[]") + "\n"
}

// wired is what wire tells.
func wired(x twin.Twin) string {
	s := ""
	for _, l := range x.N.L {
		s += fmt.Sprintf("letter %d %x\n", l.To, l.B)
	}
	return s
}

// told is what an act tells.
func told(a twin.Act, said hyper.Answer) string {
	s := fmt.Sprint("code ", said.Code)
	if said.Code == 0 && a.Kind == twin.Ask && a.C.Kind <= hyper.Wall {
		s += fmt.Sprintf(" %d %d %d %d", said.R.Value, said.R.Bound, said.R.Raised, said.R.Host)
		if a.C.Kind == hyper.Wall {
			s += fmt.Sprintf(" %d %d", said.W.Day, said.W.Second)
		}
	}
	return s + "\n"
}

// both are a line of a script, and its act.
type both struct {
	line string
	a    twin.Act
}

func ask(host int, c hyper.Call) twin.Act { return twin.Act{Kind: twin.Ask, Host: host, C: c} }

// all are lines with their acts, of every kind.
func all() []both {
	table, _ := leap.Encode(leap.Table{Base: 11, Last: 40000, L: []int64{5, 6}})
	zb, _ := zone.Encode(zone.Zone{Name: "Z+1", First: -60, L: []zone.Rule{{At: 5, Off: 6, Name: "Z+1"}, {At: 7, Off: 8, Name: "Z+1"}}})
	zn, _ := zone.Encode(zone.Zone{Name: "N", First: 9})
	p := policy.Usual()
	p.Smear, p.Quantum, p.Fuzz, p.Jump = smear.Smear{Kind: smear.Linear, Before: 3, After: 4}, 5, fuzz.Fuzz{Width: 6, Cell: 7}, true
	pb, _ := policy.Encode(p)
	p.Jump = false
	pn, _ := policy.Encode(p)
	x := tenant.Tenant{Name: "d", Key: prf.Key{1, 2, 255}, P: policy.Usual()}
	y := tenant.Tenant{Name: "c", P: policy.Usual()}
	return []both{
		{"pass 55", twin.Act{Kind: twin.Pass, N: 55}}, {"pass -1", twin.Act{Kind: twin.Pass, N: -1}}, {"come 0", twin.Act{Kind: twin.Come}}, {"come 1", twin.Act{Kind: twin.Come, N: 1}}, {"lose 1", twin.Act{Kind: twin.Lose, N: 1}}, {"double 0", twin.Act{Kind: twin.Double}}, {"double -4", twin.Act{Kind: twin.Double, N: -4}},
		{"say 0", twin.Act{Kind: twin.Say}}, {"say 1", twin.Act{Kind: twin.Say, Host: 1}}, {"say 2", twin.Act{Kind: twin.Say, Host: 2}}, {"say 4294967296", twin.Act{Kind: twin.Say, Host: 2}}, {"say -1", twin.Act{Kind: twin.Say, Host: 2}},
		{"hear 0 1 2000 2010", twin.Act{Kind: twin.Hear, N: 1, S: span.Span{Lo: 2000, Hi: 2010}}}, {"hear 1 9 0 0", twin.Act{Kind: twin.Hear, Host: 1, N: 9}}, {"hear 5 1 0 0", twin.Act{Kind: twin.Hear, Host: 2, N: 1}}, {"hear 1 2 5 4", twin.Act{Kind: twin.Hear, Host: 1, N: 2, S: span.Span{Lo: 5, Hi: 4}}},
		{"crash 0 -", twin.Act{Kind: twin.Crash}}, {"crash 1 10", twin.Act{Kind: twin.Crash, Host: 1, Keep: []bool{true, false}}}, {"move 0 b", twin.Act{Kind: twin.Move, C: hyper.Call{Name: "b"}}}, {"move 1 a", twin.Act{Kind: twin.Move, Host: 1, C: hyper.Call{Name: "a"}}}, {"move 0 A#comment", twin.Act{Kind: twin.Move, C: hyper.Call{Name: "A"}}},
		{"learn 0 11 40000 5 6", twin.Act{Kind: twin.Learn, B: table}}, {"learn 1 11 40000 5 6", twin.Act{Kind: twin.Learn, Host: 1, B: table}}, {"learn 7 11 40000 5 6", twin.Act{Kind: twin.Learn, Host: 2, B: table}},
		{"create 0 d 0102ff", twin.Act{Kind: twin.Create, T: x}}, {"create 1 c 00000000000000000000000000000000", twin.Act{Kind: twin.Create, Host: 1, T: y}}, {"create 1 c -", twin.Act{Kind: twin.Create, Host: 1, T: y}}, {"create 0 b! -", twin.Act{Kind: twin.Create, T: tenant.Tenant{Name: "b!", P: policy.Usual()}}},
		{"read 0 b", ask(0, hyper.Call{Name: "b"})}, {"read 1 a", ask(1, hyper.Call{Name: "a"})}, {"read 1 b", ask(1, hyper.Call{Name: "b"})}, {"wall 0 b", ask(0, hyper.Call{Kind: hyper.Wall, Name: "b"})}, {"wall 1 a", ask(1, hyper.Call{Kind: hyper.Wall, Name: "a"})}, {"read 2 b", ask(2, hyper.Call{Name: "b"})},
		{"stop 0 b", ask(0, hyper.Call{Kind: hyper.Stop, Name: "b"})}, {"go 0 b", ask(0, hyper.Call{Kind: hyper.Go, Name: "b"})}, {"stop 1 a", ask(1, hyper.Call{Kind: hyper.Stop, Name: "a"})}, {"go 1 a", ask(1, hyper.Call{Kind: hyper.Go, Name: "a"})},
		{"quantum 0 b 12", ask(0, hyper.Call{Kind: hyper.Quantum, Name: "b", N: 12})}, {"quantum 1 a 0", ask(1, hyper.Call{Kind: hyper.Quantum, Name: "a"})},
		{"policy 0 b 1 3 4 5 6 7 1", ask(0, hyper.Call{Kind: hyper.Policy, Name: "b", B: pb})}, {"policy 1 a 1 3 4 5 6 7 -9", ask(1, hyper.Call{Kind: hyper.Policy, Name: "a", B: pb})}, {"policy 0 b 1 3 4 5 6 7 0", ask(0, hyper.Call{Kind: hyper.Policy, Name: "b", B: pn})},
		{"zone 0 b Z+1 -60 5 6 7 8", ask(0, hyper.Call{Kind: hyper.Zone, Name: "b", B: zb})}, {"zone 1 a N 9", ask(1, hyper.Call{Kind: hyper.Zone, Name: "a", B: zn})},
	}
}

// world is a twin in the state of begun.
func world(t *testing.T) twin.Twin {
	t.Helper()
	x, err := twin.New(rule())
	if err != nil {
		t.Fatal(err)
	}
	table, _ := leap.Encode(leap.Table{Base: 10, Last: 50000, L: []int64{100}})
	for _, a := range []twin.Act{
		{Kind: twin.Learn, B: table}, {Kind: twin.Learn, Host: 1, B: table}, {Kind: twin.Hear, S: span.Span{Lo: 999, Hi: 1001}}, {Kind: twin.Hear, Host: 1, S: span.Span{Lo: 999, Hi: 1001}},
		{Kind: twin.Create, Host: 1, T: tenant.Tenant{Name: "a", Key: prf.Key{1, 2}, P: policy.Usual()}}, {Kind: twin.Create, T: tenant.Tenant{Name: "b", P: policy.Usual()}},
	} {
		next, said := twin.Do(x, a)
		if said.Code != 0 {
			t.Fatal(said)
		}
		x = next
	}
	return x
}

func TestHS3(t *testing.T) {
	r := rand.New(rand.NewSource(43))
	acts := all()
	for range 60 {
		x := world(t)
		script, want := "", ""
		down, kept := false, ""
		for range 60 {
			if r.Intn(12) == 0 {
				down, kept = true, []string{"-", "1", "01", "11"}[r.Intn(4)]
				script, want = script+"down "+kept+"\n", want+"ok\n"
			}
			b := acts[r.Intn(len(acts))]
			a := b.a
			if down {
				a.Down, a.Keep, down = true, nil, false
				for _, bit := range strings.Trim(kept, "-") {
					a.Keep = append(a.Keep, bit == '1')
				}
			}
			next, said := twin.Do(x, a)
			x = next
			script, want = script+b.line+"\n", want+told(a, said)
			if r.Intn(5) == 0 {
				script, want = script+"show 0\nshow 1\npage 0\npage 1\nwire\n", want+shown(x, 0)+shown(x, 1)+paged(x, 0)+paged(x, 1)+wired(x)
			}
			if r.Intn(20) == 0 {
				x = twin.Calm(x, 2)
				script, want = script+"calm 2\n", want+"ok\n"
			}
		}
		if got := rest(t, script); got != want {
			t.Fatalf("%s:\n%s\nwant:\n%s", script, got, want)
		}
	}
}

func TestHS3Errors(t *testing.T) {
	for s, want := range map[string]string{
		"learn 0 10 50000 x":                     "error 3\n",
		"learn 0 10 50000 5 05":                  "error 3\n",
		"learn 0 101 50000":                      "error 1\n",
		"learn 0 10 50000 6 5":                   "error 1\n",
		"create 0 d " + strings.Repeat("00", 17): "error 1\n",
		"create 0 d " + strings.Repeat("00", 16): "code 0\n",
		"create 0 b -":                           "code 8\n",
		"policy 0 b 3 0 0 1 0 1 0":               "error 1\n",
		"policy 0 b 256 0 0 1 0 1 0":             "error 1\n",
		"policy 0 b 0 0 0 0 0 1 0":               "error 1\n",
		"zone 0 b Z 0 1":                         "error 3\n",
		"zone 0 b Z 0 1 x":                       "error 3\n",
		"zone 0 b Z 0 x 1":                       "error 3\n",
		"zone 0 b Z 0 5 1 5 1":                   "error 1\n",
		"zone 0 b Z! 0":                          "error 1\n",
		"zone 0 b Z 86400":                       "error 1\n",
		"read 0 zz":                              "code 6\n",
		"read 0 b":                               "code 18\n",
		"pass 100\nread 0 b":                     "code 0\ncode 0 -9999998900 1000000006 0 6\n",
		"pass 100\nwall 0 b":                     "code 0\ncode 0 -9999998900 1000000006 0 6 -1 86390\n",
	} {
		if out := rest(t, s+"\n"); out != want {
			t.Errorf("%q: %q, want %q", s, out, want)
		}
	}
	for s, want := range map[string]string{"learn 0 10 50000 x": "error 3\n", "learn 0 10 50000": "error 1\n", "zone 0 b Z 0 1": "error 3\n", "policy 0 b 0 0 0 1 0 1 0": "error 1\n", "create 0 b -": "error 1\n"} {
		if out := play(t, s); out != want {
			t.Errorf("without hosts, %q: %q, want %q", s, out, want)
		}
	}
}

func TestHS3Jump(t *testing.T) {
	for jump, lost := range map[string]string{"0": "50", "1": "0", "-7": "0"} {
		out := rest(t, "pass 100\npolicy 0 b 0 0 0 1 0 9 "+jump+"\nstop 0 b\npass 50\ngo 0 b\nshow 0\n")
		want := strings.Repeat("code 0\n", 5) + "host 0 150 1 1\ntenant 1 0 b 0 0 0 " + lost + "\n"
		if !strings.HasPrefix(out, want) {
			t.Errorf("jump %s: %q, want %q", jump, out, want)
		}
	}
}

func TestHS3Down(t *testing.T) {
	// What fails ahead of its act, and what is no act, leaves the bits.
	out := rest(t, "down 1\nlearn 0 10 50000 x\nzone 0 b Z 0 1\nshow 0\nowners b\nwire\ncalm 1\npass 100\nread 0 b\ndown -\nread 0 b\nread 0 b\n")
	want := "ok\nerror 3\nerror 3\n" + rest(t, "show 0\n") + "owners 0\nok\ncode 0\ncode 0 -9999998900 1000000006 0 6\nok\ncode -1\ncode 13\n"
	if out != want {
		t.Errorf("%q, want %q", out, want)
	}
	if out := play(t, "down -\nread 0 a\n"+begun+"show 0\n"); !strings.Contains(out, "code -1\n") {
		t.Errorf("bits from before the hosts: %q", out)
	}
	out = rest(t, "down 1\nmove 0 b\nshow 0\ndown 0\nsay 0\nwire\nshow 0\n")
	if !strings.HasPrefix(out, "ok\ncode -1\nhost 0 0 0 1\ntenant 2 1 b 0 0 0 0\n") || strings.Contains(out, "letter") {
		t.Errorf("a move, and down: %q", out)
	}
}

func TestHS4(t *testing.T) {
	for s, want := range map[string]string{
		"owners a\nowners b\nowners zz\nowners ~":                            "owners 1\nowners 0\nowners -\nowners -\n",
		"show 2\nshow -1\npage 2\npage 9223372036854775807\nshow 4294967296": strings.Repeat("error 1\n", 5),
		"wire":                             "",
		"move 0 b\nowners b":               "code 0\nowners -\n",
		"move 0 b\ncalm 1\nowners b\nwire": "code 0\nok\nowners 1\n",
		"move 0 b\nsay 0\ncome 0\ncome 0\ncome 0\nwire\nowners b": "code 0\ncode 0\ncode 0\ncode 0\ncode 0\n" + rest(t, "move 0 b\nsay 0\ncome 0\ncome 0\ncome 0\nwire\n")[len("code 0\n")*5:] + "owners 1\n",
	} {
		if out := rest(t, s+"\n"); out != want {
			t.Errorf("%q: %q, want %q", s, out, want)
		}
	}
}

func TestHS5(t *testing.T) {
	r := rand.New(rand.NewSource(44))
	acts := all()
	quiet := []string{"owners a", "owners b", "show 0", "show 1", "page 0", "wire", "show 7"}
	for range 20 {
		plain, mixed := begun, begun
		var outs []int
		for range 40 {
			line := acts[r.Intn(len(acts))].line + "\n"
			plain += line
			more := quiet[r.Intn(len(quiet))] + "\n"
			before := len(play(t, mixed))
			mixed += more
			outs = append(outs, before, len(play(t, mixed)))
			mixed += line
		}
		out := play(t, mixed)
		for i := len(outs) - 2; i >= 0; i -= 2 {
			out = out[:outs[i]] + out[outs[i+1]:]
		}
		if want := play(t, plain); out != want {
			t.Fatalf("with lines that change nothing: %q, want %q", out, want)
		}
		lines := strings.SplitAfter(mixed, "\n")
		last := ""
		for n := range lines {
			there := play(t, strings.Join(lines[:n], ""))
			if !strings.HasPrefix(there, last) {
				t.Fatalf("line %d changed what was told before", n)
			}
			last = there
		}
	}
}
