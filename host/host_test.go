package host_test

import (
	"errors"
	"math"
	"math/big"
	"math/rand"
	"testing"

	"fusee/api"
	. "fusee/host"
	"fusee/ratio"
	"fusee/servo"
	"fusee/span"
)

const end = 1 << 62

// code is the number of an error, 0 without one.
func code(err error) int {
	var e api.Errno
	if err == nil {
		return 0
	}
	if errors.As(err, &e) {
		return int(e)
	}
	return -1
}

// rule has one nanosecond a step.
func rule() Rule {
	return Rule{Plain: ratio.Factor{Mult: 1 << 31, Shift: 31}, Most: 1 << 50, Limit: 1 << 20}
}

// with is the plain host, changed.
func with(change func(h *Host)) Host {
	h := Host{R: rule(), Synced: true, Base: 1000, Tai: 5000, Err: 7}
	change(&h)
	return h
}

func good() []Host {
	return []Host{
		with(func(h *Host) {}),
		with(func(h *Host) { h.Base = 1 << 60 }),
		with(func(h *Host) { h.Tai = end - 1 }),
		with(func(h *Host) { h.Tai = 1 - end }),
		with(func(h *Host) { h.Err = 1 << 61 }),
		with(func(h *Host) { h.S.Freq = 1 << 20 }),
		with(func(h *Host) { h.S.Freq = -1 << 20 }),
		with(func(h *Host) { h.S.Sum = 1 << 20 }),
		with(func(h *Host) { h.S.Sum = -1 << 20 }),
		with(func(h *Host) { h.R.Rho = 1 << 20 }),
		with(func(h *Host) { h.R.Most = 1 }),
		with(func(h *Host) { h.R.Gain = servo.Gain{P: 1024, I: 1024} }),
		with(func(h *Host) { h.R.Limit = 0 }),
	}
}

func wrong() []Host {
	return []Host{
		{},
		with(func(h *Host) { h.R.Plain.Mult = 0 }),
		with(func(h *Host) { h.R.Plain.Shift = 32 }),
		with(func(h *Host) { h.R.Rho = -1 }),
		with(func(h *Host) { h.R.Rho = 1<<20 + 1 }),
		with(func(h *Host) { h.R.Gain.P = -1 }),
		with(func(h *Host) { h.R.Gain.I = 1025 }),
		with(func(h *Host) { h.R.Limit = -1 }),
		with(func(h *Host) { h.R.Limit = 1<<20 + 1 }),
		with(func(h *Host) { h.R.Most = 0 }),
		with(func(h *Host) { h.R.Most = 1<<50 + 1 }),
		with(func(h *Host) { h.Base = -1 }),
		with(func(h *Host) { h.Base = 1<<60 + 1 }),
		with(func(h *Host) { h.Tai = end }),
		with(func(h *Host) { h.Tai = -end }),
		with(func(h *Host) { h.Tai = math.MinInt64 }),
		with(func(h *Host) { h.Err = -1 }),
		with(func(h *Host) { h.Err = 1<<61 + 1 }),
		with(func(h *Host) { h.R.Limit = 5; h.S.Freq = 6 }),
		with(func(h *Host) { h.R.Limit = 5; h.S.Freq = -6 }),
		with(func(h *Host) { h.S.Freq = math.MinInt64 }),
		with(func(h *Host) { h.S.Sum = 1<<20 + 1 }),
		with(func(h *Host) { h.S.Sum = -1<<20 - 1 }),
	}
}

func TestHO1(t *testing.T) {
	for _, h := range good() {
		n, err := New(h.R)
		if Check(h) != nil || n != (Host{R: h.R}) || err != nil {
			t.Errorf("%v: %v, %v, %v", h, Check(h), n, err)
		}
		f, err := Factor(h)
		want, werr := ratio.Adjust(h.R.Plain, h.S.Freq)
		if f != want || code(err) != code(werr) {
			t.Errorf("Factor(%v): %v, %v", h, f, err)
		}
		off := h
		off.Synced = false
		if Drop(h) != off {
			t.Errorf("Drop(%v): %v", h, Drop(h))
		}
	}
	for i, h := range wrong() {
		f, ferr := Factor(h)
		s, serr := Sync(h, 2000, span.Span{})
		a, b, nerr := Now(h, 2000)
		if code(Check(h)) != 1 || f != (ratio.Factor{}) || code(ferr) != 1 || s != (Host{}) || code(serr) != 1 || a != 0 || b != 0 || code(nerr) != 1 {
			t.Errorf("%d: %v: %v, %v, %v, %v", i, h, Check(h), ferr, serr, nerr)
		}
		if i > 0 && i < 11 {
			if n, err := New(h.R); n != (Host{}) || code(err) != 1 {
				t.Errorf("New(%v): %v, %v", h.R, n, err)
			}
		}
		off := h
		off.Synced = false
		if Drop(h) != off {
			t.Errorf("Drop(%v): %v", h, Drop(h))
		}
	}
	full := with(func(h *Host) { h.R.Plain.Mult = math.MaxUint32; h.S.Freq = 1 << 20 })
	if f, err := Factor(full); f != (ratio.Factor{}) || code(err) != 2 {
		t.Errorf("Factor(%v): %v, %v", full, f, err)
	}
}

func TestHO2Example(t *testing.T) {
	h, _ := New(rule())
	h, err := Sync(h, 0, span.Span{Lo: 95, Hi: 105})
	if err != nil {
		t.Fatal(err)
	}
	if tai, off, err := Now(h, 10); tai != 110 || off > 10 || err != nil {
		t.Errorf("Now: %d, %d, %v", tai, off, err)
	}
}

// told is what Now should be, without a bound on the numbers.
func told(h Host, counter int64) (*big.Int, *big.Int) {
	gone := big.NewInt(counter - h.Base)
	scale := func(mult int64) *big.Int {
		p := new(big.Int).Mul(gone, big.NewInt(mult))
		return p.Rsh(p, uint(h.R.Plain.Shift))
	}
	mult := int64(h.R.Plain.Mult) * (1<<30 + h.S.Freq) >> 30
	tai := new(big.Int).Add(big.NewInt(h.Tai), scale(mult))
	rho := h.R.Rho + h.S.Freq
	if h.S.Freq < 0 {
		rho = h.R.Rho - h.S.Freq
	}
	off := scale(int64(h.R.Plain.Mult))
	off.Add(off, big.NewInt(1)).Mul(off, big.NewInt(rho))
	off.Add(off, big.NewInt(1<<30-1)).Rsh(off, 30)
	off.Add(off, big.NewInt(h.Err+2+2))
	return tai, off.Add(off, new(big.Int).Rsh(gone, uint(h.R.Plain.Shift)))
}

func TestHO2Now(t *testing.T) {
	r := rand.New(rand.NewSource(21))
	for range 3000 {
		h := with(func(h *Host) {
			h.R.Plain = ratio.Factor{Mult: r.Uint32()>>r.Intn(32) + 1, Shift: r.Intn(32)}
			h.R.Rho = r.Int63n(1<<20 + 1)
			h.R.Limit = r.Int63n(1<<20 + 1)
			h.S.Freq = r.Int63n(2*h.R.Limit+1) - h.R.Limit
			h.Base = r.Int63n(1 << 60)
			h.Tai = r.Int63n(2*end-1) - end + 1
			h.Err = r.Int63n(1 << 61)
			h.Err >>= r.Intn(61)
			h.R.Most = 1 + r.Int63n(1<<50)
		})
		counter := h.Base + r.Int63n(1<<50+1)>>r.Intn(50)
		factor, ferr := Factor(h)
		tai, off, err := Now(h, counter)
		if ferr != nil || factor.Mult == 0 {
			if code(err) != 2 {
				t.Fatalf("Now(%v, %d): %v", h, counter, err)
			}
			continue
		}
		wantTai, wantOff := told(h, counter)
		switch {
		case wantTai.CmpAbs(big.NewInt(end)) >= 0 || wantOff.BitLen() > 100:
			if tai != 0 || off != 0 || code(err) != 2 {
				t.Fatalf("Now(%v, %d): %d, %d, %v", h, counter, tai, off, err)
			}
		case wantOff.Cmp(big.NewInt(h.R.Most)) > 0:
			if tai != 0 || off != 0 || code(err) != 13 && code(err) != 2 {
				t.Fatalf("Now(%v, %d): %d, %d, %v", h, counter, tai, off, err)
			}
		case tai != wantTai.Int64() || off != wantOff.Int64() || err != nil:
			t.Fatalf("Now(%v, %d): %d, %d, %v; want %v, %v", h, counter, tai, off, err, wantTai, wantOff)
		}
	}
}

func TestHO2Errors(t *testing.T) {
	for _, c := range []struct {
		name    string
		h       Host
		counter int64
		code    int
	}{
		{"right", with(func(h *Host) {}), 1000, 0},
		{"not synced", with(func(h *Host) { h.Synced = false }), 999, 13},
		{"past", with(func(h *Host) {}), 999, 10},
		{"least counter", with(func(h *Host) {}), math.MinInt64, 10},
		{"at the end", with(func(h *Host) {}), 1000 + 1<<50, 0},
		{"too far", with(func(h *Host) {}), 1001 + 1<<50, 2},
		{"greatest counter", with(func(h *Host) {}), math.MaxInt64, 2},
		{"time too great", with(func(h *Host) { h.Tai = end - 10 }), 1010, 2},
		{"time just not too great", with(func(h *Host) { h.Tai = end - 10 }), 1009, 0},
		{"no factor", with(func(h *Host) { h.R.Plain.Mult = math.MaxUint32; h.S.Freq = 1 << 20 }), 1000, 2},
		{"scale too great", with(func(h *Host) { h.R.Plain = ratio.Factor{Mult: math.MaxUint32} }), 1000 + 1<<50, 2},
		{"off too far", with(func(h *Host) { h.Err = 1 << 61 }), 1000, 13},
		{"off just too far", with(func(h *Host) { h.R.Most = 10 }), 1000, 13},
		{"off not too far", with(func(h *Host) { h.R.Most = 11 }), 1000, 0},
	} {
		if a, b, err := Now(c.h, c.counter); code(err) != c.code || c.code != 0 && (a != 0 || b != 0) {
			t.Errorf("%s: %d, %d, %v", c.name, a, b, err)
		}
	}
}

func TestHO3(t *testing.T) {
	plain := with(func(h *Host) { h.R.Gain = servo.Gain{P: 100, I: 10}; h.S = servo.Servo{Freq: 0, Sum: 50} })
	unset := plain
	unset.Synced = false
	far := with(func(h *Host) { h.Tai = end - 10; h.S.Sum = 50 })
	for _, c := range []struct {
		name       string
		h          Host
		counter    int64
		s          span.Span
		base, tai  int64
		off        int64
		from, code int64
	}{
		{"the first one", unset, 3, span.Span{Lo: 10, Hi: 21}, 3, 15, 6, -1, 0},
		{"within", plain, 2000, span.Span{Lo: 5990, Hi: 6100}, 2000, 6000, 11, 6000, 0},
		{"partly", plain, 2000, span.Span{Lo: 6000, Hi: 6100}, 2000, 6005, 6, 6000, 0},
		{"touching", plain, 2000, span.Span{Lo: 6011, Hi: 6100}, 2000, 6011, 0, 6000, 0},
		{"beside", plain, 2000, span.Span{Lo: 8000000, Hi: 8000100}, 2000, 8000050, 50, 6000, 0},
		{"far behind", plain, 2000, span.Span{Lo: 2 - end/2, Hi: 2 - end/2}, 2000, 2 - end/2, 0, 6000, 0},
		{"the same counter", plain, 1000, span.Span{Lo: 4000, Hi: 6000}, 1000, 5000, 11, 5000, 0},
		{"too far on", plain, 1001 + 1<<50, span.Span{Lo: 0, Hi: 10}, 1001 + 1<<50, 5, 5, -1, 0},
		{"beyond all times", far, 1010, span.Span{Lo: 0, Hi: 10}, 1010, 5, 5, -1, 0},
		{"the last counter", unset, 1 << 60, span.Span{Lo: 0, Hi: 10}, 1 << 60, 5, 5, -1, 0},
		{"past", plain, 999, span.Span{}, 0, 0, 0, 0, 10},
		{"counter below 0", unset, -1, span.Span{}, 0, 0, 0, 0, 1},
		{"counter too great", unset, 1<<60 + 1, span.Span{}, 0, 0, 0, 0, 1},
		{"no span", unset, 5, span.Span{Lo: 1}, 0, 0, 0, 0, 1},
		{"span too low", unset, 5, span.Span{Lo: -1 << 61}, 0, 0, 0, 0, 1},
		{"span too high", unset, 5, span.Span{Hi: 1 << 61}, 0, 0, 0, 0, 1},
		{"the widest span", unset, 5, span.Span{Lo: 1 - 1<<61, Hi: 1<<61 - 1}, 5, 0, 1<<61 - 1, -1, 0},
		{"no span, and past", plain, 999, span.Span{Lo: 1}, 0, 0, 0, 0, 1},
	} {
		got, err := Sync(c.h, c.counter, c.s)
		if c.code != 0 {
			if got != (Host{}) || code(err) != int(c.code) {
				t.Errorf("%s: %v, %v", c.name, got, err)
			}
			continue
		}
		want := c.h
		want.Synced, want.Base, want.Tai, want.Err = true, c.base, c.tai, c.off
		if c.from >= 0 {
			want.S, _ = servo.Step(c.h.S, c.h.R.Gain, c.h.R.Limit, c.tai-c.from)
		}
		if got != want || err != nil {
			t.Errorf("%s: %v, %v; want %v", c.name, got, err, want)
		}
	}
}

// truth is the true time at a counter that drifts by so many parts: the steps are scaled by factor and drift at once.
func truth(f ratio.Factor, parts, counter int64) int64 {
	p := new(big.Int).Mul(big.NewInt(counter), big.NewInt(int64(f.Mult)))
	p.Mul(p, big.NewInt(1<<30+parts))
	return p.Rsh(p, uint(f.Shift+30)).Int64()
}

func TestHO4(t *testing.T) {
	r := rand.New(rand.NewSource(22))
	for range 200 {
		h, err := New(Rule{Plain: ratio.Factor{Mult: 1<<31 + r.Uint32()>>1, Shift: 20 + r.Intn(12)}, Rho: r.Int63n(1 << 20), Gain: servo.Gain{P: r.Int63n(1025), I: r.Int63n(1025)}, Limit: r.Int63n(1 << 20), Most: 1 << 50})
		if err != nil {
			t.Fatal(err)
		}
		parts := r.Int63n(2*h.R.Rho+1) - h.R.Rho
		counter := int64(0)
		for range 50 {
			counter += r.Int63n(1<<32) >> r.Intn(32)
			is := truth(h.R.Plain, parts, counter)
			if r.Intn(2) == 0 {
				h, err = Sync(h, counter, span.Span{Lo: is - r.Int63n(2000), Hi: is + r.Int63n(2000)})
				if err != nil {
					t.Fatal(err)
				}
			}
			tai, off, err := Now(h, counter)
			if err == nil && (is-tai > off || tai-is > off) {
				t.Fatalf("%v at %d: %d, %d; it is %d", h, counter, tai, off, is)
			}
		}
	}
}
