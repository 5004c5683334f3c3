package whole

import (
	"testing"

	"fusee/calls"
	"fusee/host"
	"fusee/hyper"
	"fusee/leap"
	"fusee/message"
	"fusee/ntp"
	"fusee/page"
	"fusee/policy"
	"fusee/prf"
	"fusee/ratio"
	"fusee/sample"
	"fusee/script"
	"fusee/servo"
	"fusee/slot"
	"fusee/smear"
	"fusee/span"
	"fusee/tenant"
	"fusee/trace"
	"fusee/twin"
	"fusee/wide"
	"fusee/yearly"
	"fusee/zone"
)

const second = 1000000000

// rule has one nanosecond a step, and slots of 100 steps.
func rule() hyper.Rule {
	return hyper.Rule{
		Clock:  host.Rule{Plain: ratio.Factor{Mult: 1 << 31, Shift: 31}, Rho: 1000, Gain: servo.Gain{P: 100, I: 10}, Limit: 1000, Most: 1 << 40},
		Margin: 500, Cap: 1 << 40, Keep: 1 << 40, Round: slot.Round{Steps: 100, L: []string{"a", "b", "c", "d"}},
	}
}

// table knows of all days, with two leap seconds.
func table() leap.Table { return leap.Table{Base: 10, Last: 50000, L: []int64{0, 2000}} }

// who is a new tenant, with a smear that is not Step.
func who(name string) tenant.Tenant {
	p := policy.Usual()
	p.Smear = smear.Smear{Kind: smear.Linear, Before: 1000, After: 1000}
	p.Quantum = 10
	p.Zone.L = []zone.Rule{{At: 1, Off: 2, Name: "z"}, {At: 5, Off: 3600, Name: "y"}}
	return tenant.Tenant{Name: name, Key: prf.Key{1}, P: p}
}

// do is a play behind an act that must not fail.
func do(t *testing.T, p trace.Play, a twin.Act) trace.Play {
	t.Helper()
	next, said := trace.Do(p, a)
	if said.Code != 0 {
		t.Fatalf("%v: code %d", a, said.Code)
	}
	return next
}

// running is a play that began at 1000 seconds, with the tenants "a" and "b".
func running(t *testing.T, r hyper.Rule) trace.Play {
	t.Helper()
	p, err := trace.New(r, 1000*second)
	if err != nil {
		t.Fatal(err)
	}
	b, err := leap.Encode(table())
	if err != nil {
		t.Fatal(err)
	}
	for id := range 2 {
		p = do(t, p, twin.Act{Kind: twin.Learn, Host: id, B: b})
		p = do(t, p, twin.Act{Kind: twin.Hear, Host: id, S: span.Span{Lo: 1000*second - 5, Hi: 1000*second + 5}})
	}
	p = do(t, p, twin.Act{Kind: twin.Create, Host: 1, T: who("a")})
	return do(t, p, twin.Act{Kind: twin.Create, Host: 0, T: who("b")})
}

// seeds are values that are valid, so that calls by chance get on.
func seeds(t *testing.T) []any {
	t.Helper()
	p := running(t, rule())
	p = do(t, p, twin.Act{Kind: twin.Pass, N: 107})
	p = do(t, p, twin.Act{Kind: twin.Ask, C: hyper.Call{Kind: hyper.Read, Name: "b"}})
	p = do(t, p, twin.Act{Kind: twin.Move, Host: 1, C: hyper.Call{Name: "a"}})
	p = do(t, p, twin.Act{Kind: twin.Say, Host: 1})
	there, err := page.Read(p.T.H[0].Page)
	if err != nil {
		t.Fatal(err)
	}
	lines, _, err := script.Parse("say 0\nhear 0 0 5 6\nzone 0 b UTC 0 1 2\n")
	if err != nil {
		t.Fatal(err)
	}
	z, _ := zone.Encode(who("b").P.Zone)
	how, _ := policy.Encode(who("b").P)
	x := who("b")
	x.Epoch = 3
	offer, _ := message.Encode(message.Message{Kind: message.Offer, Epoch: 3, Name: "b", Tenant: x})
	packet, _ := ntp.Encode(ntp.Packet{Version: 4, Mode: 4, Stratum: 1})
	call, _ := calls.Encode(hyper.Call{Kind: hyper.Wall, Name: "b"})
	known, _ := leap.Encode(table())
	packed, _ := message.Pack(x)
	paged, _ := page.Encode(there)
	return []any{
		p, rule(), there, lines, table(), who("a"), x, z, how, offer, p.T.N.L[0].B,
		twin.Act{Kind: twin.Ask, C: hyper.Call{Name: "b"}}, twin.Act{Kind: twin.Come}, hyper.Call{Kind: hyper.Zone, Name: "b", B: z}, hyper.Call{Kind: hyper.Policy, Name: "b", B: how}, hyper.Call{Kind: hyper.Wall, Name: "b"},
		message.Message{Kind: message.Offer, Epoch: 3, Name: "b", Tenant: x}, message.Message{Kind: message.Accept, Epoch: 1, Name: "a"},
		sample.Sample{Asked: 0, Came: 15, Sent: 16, Got: 11}, ntp.Packet{Version: 4, Mode: 3}, ntp.Packet{Version: 4, Mode: 4, Stratum: 1, Asked: 0x83aa7e8000000000, Came: 0x83aa7e8000000000, Sent: 0x83aa7e8000000000},
		yearly.Yearly{Name: "CET", Off: 3600, Summer: "CEST", More: 3600, Begin: yearly.Day{Month: 3, Week: 5, Weekday: 7, Second: 7200}, End: yearly.Day{Month: 10, Week: 5, Weekday: 7, Second: 10800}},
		packed, paged, known, z, how, offer, wide.Wide{Hi: 1, Lo: 2}, smear.Smear{Kind: smear.Soft, Before: 4000, After: 4000}, int64(0), int64(5), 0, 1, call, packet, who("c"), who("d"),
	}
}
