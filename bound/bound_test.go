package bound_test

import (
	"errors"
	"math"
	"math/big"
	"math/rand"
	"testing"

	"fusee/ahead"
	"fusee/api"
	. "fusee/bound"
	"fusee/fuzz"
	"fusee/leap"
	"fusee/page"
	"fusee/policy"
	"fusee/prf"
	"fusee/ratio"
	"fusee/smear"
	"fusee/tenant"
)

// code is the number of an error, 0 without one.
func code(err error) int {
	var e api.Errno
	if err == nil {
		return 0
	}
	if errors.As(err, &e) {
		return int(e)
	}
	return -1
}

// plain is a page with one nanosecond a step, changed.
func plain(change func(p *page.Page)) page.Page {
	one := ratio.Factor{Mult: 1 << 31, Shift: 31}
	p := page.Page{Tai: 100, Err: 5, Go: one, Plain: one, Parts: 1 << 20, Cap: 1 << 40}
	change(&p)
	return p
}

func smooth() policy.Policy {
	p := policy.Usual()
	p.Smear, p.Quantum, p.Fuzz.Width = smear.Smear{Kind: smear.Linear, After: 5}, 1000, 77
	return p
}

func TestBN1Of(t *testing.T) {
	if got, err := Of(plain(func(p *page.Page) { p.Parts = 0 }), 0, policy.Usual(), 0); got != (Parts{5, 0, 4, 0, 0, 1000000000, 0}) || err != nil {
		t.Errorf("Of: %v, %v", got, err)
	}
	if got, err := Of(plain(func(p *page.Page) {}), 0, policy.Usual(), 0); got != (Parts{5, 1, 4, 0, 0, 1000000000, 0}) || err != nil {
		t.Errorf("Of: %v, %v", got, err)
	}
	if got, err := Of(plain(func(p *page.Page) { p.Base = 50 }), 50+1<<33, smooth(), 9); got != (Parts{5, 1<<23 + 1, 4 + 4, 77, 999, 0, 9}) || err != nil {
		t.Errorf("Of: %v, %v", got, err)
	}
	r := rand.New(rand.NewSource(33))
	for range 3000 {
		p := plain(func(p *page.Page) {
			p.Plain = ratio.Factor{Mult: r.Uint32()>>r.Intn(32) | 1, Shift: r.Intn(32)}
			p.Parts, p.Err = r.Int63n(1<<21+1), r.Int63n(1<<61)
		})
		gone := r.Int63n(1 << 40 >> r.Intn(40))
		passed := new(big.Int).Mul(big.NewInt(gone), big.NewInt(int64(p.Plain.Mult)))
		passed.Rsh(passed, uint(p.Plain.Shift))
		got, err := Of(p, gone, smooth(), 3)
		if !passed.IsInt64() {
			if got != (Parts{}) || code(err) != 2 {
				t.Fatalf("Of(%v, %d): %v, %v", p, gone, got, err)
			}
			continue
		}
		age := passed.Add(passed, big.NewInt(1))
		age.Mul(age, big.NewInt(p.Parts)).Add(age, big.NewInt(1<<30-1)).Rsh(age, 30)
		if got != (Parts{p.Err, age.Int64(), gone>>p.Plain.Shift + 4, 77, 999, 0, 3}) || err != nil {
			t.Fatalf("Of(%v, %d): %v, %v; want age %v", p, gone, got, err, age)
		}
	}
}

func TestBN1Errors(t *testing.T) {
	late := plain(func(p *page.Page) { p.Tai = 1<<62 - 10 })
	for _, c := range []struct {
		name    string
		p       page.Page
		counter int64
		how     policy.Policy
		raised  int64
		code    int
	}{
		{"right", plain(func(p *page.Page) {}), 1 << 40, smooth(), math.MaxInt64, 0},
		{"no policy", plain(func(p *page.Page) {}), -1, policy.Policy{}, 0, 1},
		{"raised below 0", plain(func(p *page.Page) {}), -1, smooth(), -1, 1},
		{"no page", page.Page{}, 0, smooth(), 0, 1},
		{"past", plain(func(p *page.Page) {}), -1, smooth(), 0, 10},
		{"stale", plain(func(p *page.Page) {}), 1<<40 + 1, smooth(), 0, 14},
		{"too late", late, 10, smooth(), 0, 2},
	} {
		got, err := Of(c.p, c.counter, c.how, c.raised)
		if code(err) != c.code || c.code != 0 && got != (Parts{}) {
			t.Errorf("%s: %v, %v", c.name, got, err)
		}
		if c.code != 0 && Told(c.p, c.counter, c.how, tenant.Reading{Raised: c.raised}) {
			t.Errorf("%s: told", c.name)
		}
	}
}

func TestBN1Sum(t *testing.T) {
	const most, least = math.MaxInt64, math.MinInt64
	for _, c := range []struct {
		p    Parts
		want int64
	}{
		{Parts{}, 0}, {Parts{1, 2, 4, 8, 16, 32, 64}, 127}, {Parts{-1, 2, -4, 8, -16, 32, -64}, -43},
		{Parts{most, 1, 0, 0, 0, 0, 0}, most}, {Parts{most, 1, -1, 0, 0, 0, 0}, most - 1}, {Parts{0, 0, 0, 0, most, -5, 7}, most}, {Parts{least, -1, 1, 0, 0, 0, 0}, least + 1}, {Parts{1, 0, 0, 0, 0, 0, most}, most},
		{Parts{0, most, 0, 1, 0, -1, 0}, most - 1},
	} {
		if got := Sum(c.p); got != c.want {
			t.Errorf("Sum(%v): %d, want %d", c.p, got, c.want)
		}
	}
}

func TestBN2(t *testing.T) {
	for _, c := range []struct {
		name  string
		p     page.Page
		how   policy.Policy
		limit int64
		want  int64
		code  int
	}{
		{"no page", page.Page{}, smooth(), 0, 0, 1}, {"no policy", plain(func(p *page.Page) {}), policy.Policy{}, 0, 0, 1},
		{"never", plain(func(p *page.Page) {}), smooth(), 1085, 0, 13}, {"never below 0", plain(func(p *page.Page) {}), smooth(), -1, 0, 13}, {"least limit", plain(func(p *page.Page) {}), smooth(), math.MinInt64, 0, 13},
		{"only at first", plain(func(p *page.Page) {}), smooth(), 1086, 1023, 0},
		{"for longer", plain(func(p *page.Page) {}), smooth(), 1087, 2047, 0},
		{"for ever", plain(func(p *page.Page) {}), smooth(), math.MaxInt64, 1 << 40, 0},
		{"without drift", plain(func(p *page.Page) { p.Parts = 0 }), smooth(), 1085, 1<<31 - 1, 0},
		{"until no time", plain(func(p *page.Page) { p.Tai = 1<<62 - 10 }), smooth(), math.MaxInt64, 9, 0},
		{"with a base", plain(func(p *page.Page) { p.Base = 1 << 60 }), smooth(), 1087, 2047, 0},
		{"with a step", plain(func(p *page.Page) {}), policy.Usual(), 1000000010, 1023, 0},
	} {
		if got, err := Age(c.p, c.how, c.limit); got != c.want || code(err) != c.code {
			t.Errorf("%s: %d, %v; want %d, %d", c.name, got, err, c.want, c.code)
		}
	}
	r := rand.New(rand.NewSource(34))
	for range 300 {
		p := plain(func(p *page.Page) {
			p.Parts, p.Cap, p.Plain = r.Int63n(1<<21+1), 1+r.Int63n(1<<50)>>r.Intn(50), ratio.Factor{Mult: r.Uint32() | 1<<20, Shift: r.Intn(32)}
		})
		limit := 1000 + r.Int63n(1<<40)>>r.Intn(40)
		fits := func(gone int64) bool {
			parts, err := Of(p, gone, smooth(), 0)
			return err == nil && Sum(parts) <= limit
		}
		got, err := Age(p, smooth(), limit)
		if err != nil {
			if got != 0 || code(err) != 13 || fits(0) {
				t.Fatalf("Age(%v, %d): %d, %v", p, limit, got, err)
			}
			continue
		}
		if got < 0 || got > p.Cap || !fits(got) || got < p.Cap && fits(got+1) {
			t.Fatalf("Age(%v, %d): %d", p, limit, got)
		}
	}
}

func TestBN3(t *testing.T) {
	r := rand.New(rand.NewSource(35))
	table := leap.Table{Last: 50000}
	for range 2000 {
		how := policy.Usual()
		how.Quantum, how.Fuzz = 1+r.Int63n(1<<20), fuzz.Fuzz{Width: r.Int63n(1 << 20), Cell: 1 + r.Int63n(1<<20)}
		if r.Intn(2) == 0 {
			how.Smear = smear.Smear{Kind: smear.Linear, Before: 3, After: 4}
		}
		x, err := tenant.New("a", prf.Key{}, how)
		if err != nil {
			t.Fatal(err)
		}
		x.Floor.Set, x.Floor.At = r.Intn(2) == 0, 0
		p := plain(func(p *page.Page) {
			p.Tai, p.Parts, p.Err, p.Plain = r.Int63n(1<<40)-1<<39, r.Int63n(1<<21+1), r.Int63n(1<<61)>>r.Intn(61), ratio.Factor{Mult: r.Uint32() | 1, Shift: 20 + r.Intn(12)}
		})
		counter := r.Int63n(1 << 40)
		tai, off, err := ahead.Time(p, counter)
		if err != nil {
			continue
		}
		got, _, err := tenant.Read(x, table, tai, off)
		if err != nil {
			t.Fatal(err)
		}
		if !Told(p, counter, how, got) {
			t.Fatalf("Told(%v, %d, %v, %v)", p, counter, how, got)
		}
		for _, change := range []func(r *tenant.Reading){func(r *tenant.Reading) { r.Bound++ }, func(r *tenant.Reading) { r.Host-- }, func(r *tenant.Reading) { r.Raised++ }, func(r *tenant.Reading) { r.Raised = -1 }} {
			other := got
			change(&other)
			if Told(p, counter, how, other) {
				t.Fatalf("Told(%v, %d, %v, %v)", p, counter, how, other)
			}
		}
		got.Value++
		if !Told(p, counter, how, got) {
			t.Fatal("the value does not matter")
		}
	}
}
