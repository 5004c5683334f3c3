package whole

import (
	"math/big"
	"math/rand"
	"testing"

	"fusee/ahead"
	"fusee/bound"
	"fusee/fuzz"
	"fusee/handoff"
	"fusee/hyper"
	"fusee/leap"
	"fusee/page"
	"fusee/policy"
	"fusee/ratio"
	"fusee/servo"
	"fusee/smear"
	"fusee/span"
	"fusee/tenant"
)

// truth is the true time at a counter, that began at a time and drifts by so many parts in 2^30.
func truth(start int64, f ratio.Factor, parts, counter int64) int64 {
	p := new(big.Int).Mul(big.NewInt(counter), big.NewInt(int64(f.Mult)))
	p.Mul(p, big.NewInt(1<<30+parts))
	return start + p.Rsh(p, uint(f.Shift+30)).Int64()
}

// drifting is a rule by chance, whose counter has about one nanosecond a step.
func drifting(r *rand.Rand) hyper.Rule {
	x := rule()
	x.Clock.Plain = ratio.Factor{Mult: 1<<31 + r.Uint32()>>2, Shift: 31}
	x.Clock.Rho = r.Int63n(1 << 18)
	x.Clock.Gain, x.Clock.Limit = servo.Gain{P: r.Int63n(1025), I: r.Int63n(200)}, r.Int63n(1<<18)
	x.Cap, x.Keep, x.Clock.Most = 1<<45, 1<<45, 1<<50
	x.Round.L = []string{"b"}
	return x
}

// smooth is a policy by chance whose smear is not Step.
func smooth(r *rand.Rand) policy.Policy {
	p := policy.Usual()
	p.Smear = smear.Smear{Kind: smear.Linear + r.Intn(2), Before: 1800 + r.Int63n(9000), After: 1800 + r.Int63n(9000)}
	p.Quantum = 1 + r.Int63n(1<<36)>>r.Intn(37)
	p.Fuzz = fuzz.Fuzz{Width: r.Int63n(1<<40) >> r.Intn(41), Cell: 1 + r.Int63n(1<<40)}
	p.Jump = r.Intn(2) == 0
	return p
}

// asked asks a host for the time, and checks the answer against the truth.
func asked(t *testing.T, h hyper.Host, is int64) hyper.Host {
	t.Helper()
	x, err := handoff.Owned(h.T, "b")
	if err != nil {
		t.Fatal(err)
	}
	next, a := hyper.Do(h, hyper.Call{Kind: hyper.Read, Name: "b"})
	if a.Code != 0 {
		return next
	}
	exact, err := tenant.True(x, h.Leaps, is)
	if err != nil || a.R.Value-exact > a.R.Bound || exact-a.R.Value > a.R.Bound || a.R.Value%x.P.Quantum != 0 {
		t.Fatalf("%v at %d: %v, true is %d, %v", x, is, a.R, exact, err)
	}
	p, err := page.Read(h.Page)
	if err != nil || !bound.Told(p, h.Counter, x.P, a.R) {
		t.Fatalf("%v is not told by %v, %v", a.R, p, err)
	}
	if tai, off, err := ahead.Time(p, h.Counter); err != nil || is-tai > off || tai-is > off {
		t.Fatalf("the page tells %d, %d, %v; it is %d", tai, off, err, is)
	}
	return next
}

func TestP1(t *testing.T) {
	r := rand.New(rand.NewSource(62))
	readings := 0
	for range 80 {
		how := drifting(r)
		h, err := hyper.New(0, how)
		if err != nil {
			t.Fatal(err)
		}
		b, _ := leap.Encode(table())
		h, _ = hyper.Learn(h, b)
		x := who("b")
		x.P = smooth(r)
		h, err = hyper.Create(h, x)
		if err != nil {
			t.Fatal(err)
		}
		parts := r.Int63n(2*how.Clock.Rho+1) - how.Clock.Rho
		start := int64(86400-9000-r.Intn(20000)) * second
		for range 80 {
			h, err = hyper.Pass(h, r.Int63n(1<<39)>>r.Intn(20))
			if err != nil {
				t.Fatal(err)
			}
			is := truth(start, how.Clock.Plain, parts, h.Counter)
			switch r.Intn(6) {
			case 0, 1:
				width := int64(1) << r.Intn(30)
				h, err = hyper.Hear(h, r.Intn(4), span.Span{Lo: is - r.Int63n(width), Hi: is + r.Int63n(width)})
				if err != nil {
					t.Fatal(err)
				}
			case 2:
				kind := []int{hyper.Stop, hyper.Go, hyper.Go}[r.Intn(3)]
				h, _ = hyper.Do(h, hyper.Call{Kind: kind, Name: "b"})
			case 3:
				c := hyper.Call{Kind: hyper.Policy, Name: "b"}
				c.B, _ = policy.Encode(smooth(r))
				h, _ = hyper.Do(h, c)
			}
			before := h
			h = asked(t, h, is)
			if len(h.T.L) > 0 && h.T.L[0].T.Floor != before.T.L[0].T.Floor {
				readings++
			}
		}
	}
	if readings < 1000 {
		t.Errorf("only %d readings went on", readings)
	}
}
