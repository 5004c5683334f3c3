package ahead_test

import (
	"errors"
	"math"
	"math/big"
	"math/rand"
	"testing"

	. "fusee/ahead"
	"fusee/api"
	"fusee/host"
	"fusee/page"
	"fusee/ratio"
	"fusee/servo"
)

const end = 1 << 62

// code is the number of an error, 0 without one.
func code(err error) int {
	var e api.Errno
	if err == nil {
		return 0
	}
	if errors.As(err, &e) {
		return int(e)
	}
	return -1
}

// plain is a page with one nanosecond a step, changed.
func plain(change func(p *page.Page)) page.Page {
	one := ratio.Factor{Mult: 1 << 31, Shift: 31}
	p := page.Page{Tai: 100, Err: 5, Go: one, Plain: one, Cap: 1000}
	change(&p)
	return p
}

func TestAH1Errors(t *testing.T) {
	big := ratio.Factor{Mult: math.MaxUint32}
	for _, c := range []struct {
		name    string
		p       page.Page
		counter int64
		code    int
	}{
		{"right", plain(func(p *page.Page) {}), 10, 0},
		{"no page", plain(func(p *page.Page) { p.Cap = 0 }), -1, 1},
		{"past", plain(func(p *page.Page) {}), -1, 10},
		{"long past", plain(func(p *page.Page) {}), math.MinInt64, 10},
		{"past its base", plain(func(p *page.Page) { p.Base = 1 << 60 }), 1<<60 - 1, 10},
		{"at the end", plain(func(p *page.Page) {}), 1000, 0},
		{"stale", plain(func(p *page.Page) {}), 1001, 14},
		{"long stale", plain(func(p *page.Page) {}), math.MaxInt64, 14},
		{"too late", plain(func(p *page.Page) { p.Tai = end - 10 }), 10, 2},
		{"just not too late", plain(func(p *page.Page) { p.Tai = end - 10 }), 9, 0},
		{"too much", plain(func(p *page.Page) { p.Go, p.Cap = big, 1<<50 }), 1 << 50, 2},
		{"the bound has too much", plain(func(p *page.Page) { p.Plain, p.Cap = big, 1<<50 }), 1 << 50, 2},
	} {
		if a, b, err := Time(c.p, c.counter); code(err) != c.code || c.code != 0 && (a != 0 || b != 0) {
			t.Errorf("%s: %d, %d, %v", c.name, a, b, err)
		}
	}
	if a, _, err := Time(plain(func(p *page.Page) {}), 10); a != 110 || err != nil {
		t.Errorf("Time: %d, %v", a, err)
	}
}

// random is a page by chance.
func random(r *rand.Rand) page.Page {
	return page.Page{Base: r.Int63n(1 << 60), Tai: r.Int63n(end) - r.Int63n(end), Err: r.Int63n(1<<61) >> r.Intn(60), Go: ratio.Factor{Mult: r.Uint32()>>r.Intn(32) | 1, Shift: r.Intn(32)},
		Plain: ratio.Factor{Mult: r.Uint32()>>r.Intn(32) | 1, Shift: r.Intn(32)}, Parts: r.Int63n(1<<21 + 1), Cap: 1 + r.Int63n(1<<50)>>r.Intn(49)}
}

// times is a number times a factor, rounded down.
func times(f ratio.Factor, n int64) *big.Int {
	p := new(big.Int).Mul(big.NewInt(n), big.NewInt(int64(f.Mult)))
	return p.Rsh(p, uint(f.Shift))
}

func TestAH1Time(t *testing.T) {
	r := rand.New(rand.NewSource(25))
	right := 0
	for range 5000 {
		p := random(r)
		gone := r.Int63n(p.Cap + 1)
		tai := new(big.Int).Add(big.NewInt(p.Tai), times(p.Go, gone))
		passed := times(p.Plain, gone)
		fits := times(p.Go, gone).IsInt64() && tai.CmpAbs(big.NewInt(end)) < 0 && passed.IsInt64()
		off := new(big.Int)
		if fits {
			off.SetInt64(min(passed.Int64(), math.MaxInt64-1) + 1)
			off.Mul(off, big.NewInt(p.Parts)).Add(off, big.NewInt(1<<30-1)).Rsh(off, 30)
			off.Add(off, big.NewInt(p.Err+4)).Add(off, big.NewInt(gone>>p.Plain.Shift))
		}
		a, b, err := Time(p, p.Base+gone)
		if !fits {
			if a != 0 || b != 0 || code(err) != 2 {
				t.Fatalf("Time(%v, %d): %d, %d, %v", p, gone, a, b, err)
			}
			continue
		}
		right++
		if a != tai.Int64() || b != off.Int64() || err != nil {
			t.Fatalf("Time(%v, %d): %d, %d, %v; want %v, %v", p, gone, a, b, err, tai, off)
		}
	}
	if right < 1000 {
		t.Errorf("only %d times", right)
	}
}

func TestAH2(t *testing.T) {
	p := plain(func(p *page.Page) { p.Base = 50 })
	if n, err := Good(p); n != 1050 || err != nil {
		t.Errorf("Good: %d, %v", n, err)
	}
	slow := plain(func(p *page.Page) { p.Go = ratio.Factor{Mult: 1, Shift: 2} })
	late := plain(func(p *page.Page) { p.Tai = end - 10 })
	wide := plain(func(p *page.Page) {
		p.Plain, p.Cap = ratio.Factor{Mult: math.MaxUint32}, 1<<50
	})
	for _, c := range []struct {
		name string
		p    page.Page
		tai  int64
		want int64
		code int
	}{
		{"at once", p, 100, 50, 0}, {"later", p, 101, 51, 0}, {"at the end", p, 1100, 1050, 0},
		{"behind the end", p, 1101, 0, 14}, {"never", p, math.MaxInt64, 0, 14}, {"past", p, 99, 0, 10}, {"long past", p, math.MinInt64, 0, 10},
		{"slowly", slow, 101, 4, 0}, {"slowly at the end", slow, 350, 1000, 0}, {"slowly behind it", slow, 351, 0, 14},
		{"just not too late", late, end - 1, 9, 0}, {"too late", late, end, 10, 0}, {"much too late", late, math.MaxInt64, 10, 0},
		{"whatever the bound is", wide, 100 + 1<<50, 1 << 50, 0},
		{"no page", page.Page{}, 0, 0, 1},
	} {
		if n, err := When(c.p, c.tai); n != c.want || code(err) != c.code {
			t.Errorf("%s: %d, %v", c.name, n, err)
		}
	}
	if n, err := Good(page.Page{}); n != 0 || code(err) != 1 {
		t.Errorf("Good without a page: %d, %v", n, err)
	}
	r := rand.New(rand.NewSource(26))
	for range 3000 {
		p := random(r)
		tai := p.Tai + r.Int63n(1<<50)>>r.Intn(50)
		reached := func(gone int64) bool {
			there := new(big.Int).Add(big.NewInt(p.Tai), times(p.Go, gone))
			return there.Cmp(big.NewInt(min(tai, end))) >= 0
		}
		n, err := When(p, tai)
		switch {
		case !reached(p.Cap):
			if n != 0 || code(err) != 14 {
				t.Fatalf("When(%v, %d): %d, %v", p, tai, n, err)
			}
		case err != nil || !reached(n-p.Base) || n > p.Base && reached(n-p.Base-1):
			t.Fatalf("When(%v, %d): %d, %v", p, tai, n, err)
		}
	}
}

func TestAH3(t *testing.T) {
	r := rand.New(rand.NewSource(27))
	for range 500 {
		h := host.Host{R: host.Rule{Plain: ratio.Factor{Mult: r.Uint32() | 1<<30, Shift: 20 + r.Intn(12)}, Rho: r.Int63n(1 << 20), Limit: 1 << 20, Most: 1 << 50}, Synced: true,
			Base: r.Int63n(1 << 40), Tai: r.Int63n(1 << 50), Err: r.Int63n(1 << 30), S: servo.Servo{Freq: r.Int63n(1<<21) - 1<<20}}
		p, err := page.Of(h, 3, 1<<40)
		if err != nil {
			continue
		}
		lastTai, lastOff := int64(math.MinInt64), int64(0)
		counter := h.Base
		for range 20 {
			tai, off, err := Time(p, counter)
			same, bound, herr := host.Now(h, counter)
			if tai != same || off != bound || err != nil || herr != nil {
				t.Fatalf("%v at %d: %d, %d, %v; %d, %d, %v", h, counter, tai, off, err, same, bound, herr)
			}
			if tai < lastTai || off < lastOff {
				t.Fatalf("%v at %d: %d, %d behind %d, %d", h, counter, tai, off, lastTai, lastOff)
			}
			lastTai, lastOff = tai, off
			counter += r.Int63n(1<<35) >> r.Intn(35)
		}
	}
}
