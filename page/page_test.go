package page_test

import (
	"bytes"
	"errors"
	"math"
	"math/rand"
	"testing"

	"fusee/api"
	"fusee/crc"
	"fusee/host"
	. "fusee/page"
	"fusee/ratio"
	"fusee/servo"
)

// little are bytes with the lowest bytes of a number behind, the least significant first.
func little(b []byte, n uint64, size int) []byte {
	for i := range size {
		b = append(b, byte(n>>(8*i)))
	}
	return b
}

func le32(b []byte, n uint32) []byte { return little(b, uint64(n), 4) }

func le64(b []byte, n uint64) []byte { return little(b, uint64(n), 8) }

// code is the number of an error, 0 without one.
func code(err error) int {
	var e api.Errno
	if err == nil {
		return 0
	}
	if errors.As(err, &e) {
		return int(e)
	}
	return -1
}

// with is a page, changed.
func with(change func(p *Page)) Page {
	p := Page{5, 1000, -77, 9, ratio.Factor{Mult: 3, Shift: 1}, ratio.Factor{Mult: 1 << 31, Shift: 31}, 20, 100}
	change(&p)
	return p
}

func good() []Page {
	return []Page{
		with(func(p *Page) {}),
		with(func(p *Page) { p.Epoch, p.Base, p.Tai, p.Err, p.Parts, p.Cap = 0, 0, 0, 0, 0, 1 }),
		with(func(p *Page) {
			p.Epoch, p.Base, p.Tai, p.Err, p.Parts, p.Cap = 1<<40, 1<<60, 1<<62-1, 1<<61, 1<<21, 1<<50
		}),
		with(func(p *Page) { p.Tai = 1 - 1<<62 }),
		with(func(p *Page) { p.Go = ratio.Factor{Mult: math.MaxUint32, Shift: 0}; p.Plain = p.Go }),
	}
}

func wrong() []Page {
	return []Page{
		{},
		with(func(p *Page) { p.Epoch = -1 }), with(func(p *Page) { p.Epoch = 1<<40 + 1 }),
		with(func(p *Page) { p.Base = -1 }), with(func(p *Page) { p.Base = 1<<60 + 1 }),
		with(func(p *Page) { p.Tai = 1 << 62 }), with(func(p *Page) { p.Tai = -1 << 62 }), with(func(p *Page) { p.Tai = math.MinInt64 }),
		with(func(p *Page) { p.Err = -1 }), with(func(p *Page) { p.Err = 1<<61 + 1 }),
		with(func(p *Page) { p.Go.Mult = 0 }), with(func(p *Page) { p.Go.Shift = 32 }), with(func(p *Page) { p.Go.Shift = -1 }),
		with(func(p *Page) { p.Plain.Mult = 0 }), with(func(p *Page) { p.Plain.Shift = 32 }), with(func(p *Page) { p.Plain.Shift = -1 }),
		with(func(p *Page) { p.Parts = -1 }), with(func(p *Page) { p.Parts = 1<<21 + 1 }),
		with(func(p *Page) { p.Cap = 0 }), with(func(p *Page) { p.Cap = 1<<50 + 1 }),
	}
}

// laid are a page's words, one by one, with their sum.
func laid(p Page, seq uint64) Words {
	return summed(Words{seq, uint64(p.Epoch), uint64(p.Base), uint64(p.Tai), uint64(p.Err), uint64(p.Go.Mult), uint64(p.Go.Shift),
		uint64(p.Plain.Mult), uint64(p.Plain.Shift), uint64(p.Parts), uint64(p.Cap)})
}

// summed are words with the sum that is due.
func summed(w Words) Words {
	var b []byte
	for _, x := range w[1:15] {
		b = le64(b, x)
	}
	w[15] = uint64(crc.Sum(b))
	return w
}

func TestPG1Check(t *testing.T) {
	for _, p := range good() {
		if err := Check(p); err != nil {
			t.Errorf("Check(%v): %v", p, err)
		}
	}
	for _, p := range wrong() {
		w, lerr := Lay(p, 6)
		b, berr := Encode(p)
		if code(Check(p)) != 1 || w != (Words{}) || code(lerr) != 1 || len(b) != 0 || code(berr) != 1 {
			t.Errorf("%v: %v, %v, %v", p, Check(p), lerr, berr)
		}
	}
}

func TestPG1Of(t *testing.T) {
	plain := ratio.Factor{Mult: 1 << 31, Shift: 31}
	h := host.Host{R: host.Rule{Plain: plain, Rho: 10, Limit: 1 << 20, Most: 5}, Synced: true, Base: 7, Tai: 8, Err: 9, S: servo.Servo{Freq: -300, Sum: 4}}
	goes, _ := ratio.Adjust(plain, -300)
	if p, err := Of(h, 3, 99); p != (Page{3, 7, 8, 9, goes, plain, 310, 99}) || err != nil {
		t.Errorf("Of: %v, %v", p, err)
	}
	unset, bad, full := h, h, h
	unset.Synced = false
	bad.Base = -1
	full.R.Plain.Mult, full.S.Freq = math.MaxUint32, 1<<20
	for _, c := range []struct {
		h          host.Host
		epoch, cap int64
		code       int
	}{
		{h, 0, 1, 0}, {h, 1 << 40, 1 << 50, 0},
		{h, -1, 1, 1}, {h, 1<<40 + 1, 1, 1}, {h, 0, 0, 1}, {h, 0, 1<<50 + 1, 1}, {h, 0, math.MinInt64, 1},
		{bad, 0, 1, 1}, {unset, 0, 1, 13}, {unset, -1, 1, 1}, {unset, 0, 0, 1}, {full, 0, 1, 2}, {full, 0, 0, 1},
	} {
		if p, err := Of(c.h, c.epoch, c.cap); code(err) != c.code || c.code != 0 && p != (Page{}) {
			t.Errorf("Of(%v, %d, %d): %v, %v", c.h, c.epoch, c.cap, p, err)
		}
	}
}

func TestPG2(t *testing.T) {
	if len(Words{}) != 16 {
		t.Errorf("%d words", len(Words{}))
	}
	for _, p := range good() {
		for _, seq := range []uint64{0, 1, 6, 7, math.MaxUint64 - 1, math.MaxUint64} {
			w, err := Lay(p, seq)
			if w != laid(p, seq) || err != nil || w[0] != seq || Sum(w) != w[15] {
				t.Errorf("Lay(%v, %d): %v, %v", p, seq, w, err)
			}
			got, err := Read(w)
			if seq%2 == 1 {
				if got != (Page{}) || code(err) != 15 {
					t.Errorf("Read of %d: %v, %v", seq, got, err)
				}
			} else if got != p || err != nil {
				t.Errorf("Read of %d: %v, %v", seq, got, err)
			}
		}
	}
	for _, p := range wrong() {
		if got, err := Read(laid(p, 6)); got != (Page{}) || code(err) != 3 {
			t.Errorf("Read of %v: %v, %v", p, got, err)
		}
	}
}

func TestPG2Read(t *testing.T) {
	right := laid(good()[0], 6)
	for i := 1; i < 15; i++ {
		for _, by := range []uint64{1, 1 << 32, 1 << 63} {
			w := right
			w[i] ^= by
			if got, err := Read(w); got != (Page{}) || code(err) != 4 {
				t.Errorf("word %d changed by %x: %v, %v", i, by, got, err)
			}
			torn := w
			torn[0]++
			if got, err := Read(torn); got != (Page{}) || code(err) != 15 {
				t.Errorf("word %d changed, and torn: %v, %v", i, got, err)
			}
			// A high bit that a factor would lose, or a word that has to be 0.
			if got, err := Read(summed(w)); (i >= 5 && i <= 8 || i > 10) && by > 1 && (got != (Page{}) || code(err) != 3) {
				t.Errorf("word %d summed: %v, %v", i, got, err)
			}
		}
	}
	for i := 11; i < 15; i++ {
		w := right
		w[i] = 1
		if got, err := Read(summed(w)); got != (Page{}) || code(err) != 3 {
			t.Errorf("word %d: %v, %v", i, got, err)
		}
	}
	w := right
	w[15] |= 1 << 40
	if got, err := Read(w); got != (Page{}) || code(err) != 4 {
		t.Errorf("a sum with more bits: %v, %v", got, err)
	}
	w = right
	w[0] = 99 << 1
	if got, err := Read(w); got != good()[0] || err != nil {
		t.Errorf("another number of pages: %v, %v", got, err)
	}
}

// built is a blob of so many words.
func built(words []uint64) []byte {
	b := []byte{'t', 'm', 1, byte(8 * len(words)), 0}
	for _, x := range words {
		b = le64(b, x)
	}
	return le32(b, crc.Sum(b))
}

func TestPG3(t *testing.T) {
	for _, p := range good() {
		w := laid(p, 0)
		b, err := Encode(p)
		if !bytes.Equal(b, built(w[1:11])) || err != nil {
			t.Errorf("Encode(%v): %x, %v", p, b, err)
		}
		if got, err := Decode(b); got != p || err != nil {
			t.Errorf("Decode: %v, %v", got, err)
		}
	}
	for _, p := range wrong() {
		w := laid(p, 0)
		if got, err := Decode(built(w[1:11])); got != (Page{}) || code(err) != 3 {
			t.Errorf("Decode of %v: %v, %v", p, got, err)
		}
	}
	w := laid(good()[0], 0)
	high := w
	high[5] |= 1 << 32
	wrongSum := built(w[1:11])
	wrongSum[9]++
	other := built(w[1:11])
	other[2] = 2
	for name, c := range map[string]struct {
		b    []byte
		code int
	}{
		"nothing": {nil, 3}, "a word less": {built(w[1:10]), 3}, "a word more": {built(w[1:12]), 3},
		"a factor too great": {built(high[1:11]), 3}, "a wrong sum": {wrongSum, 4}, "another kind": {other, 3},
	} {
		if got, err := Decode(c.b); got != (Page{}) || code(err) != c.code {
			t.Errorf("%s: %v, %v", name, got, err)
		}
	}
}

func TestPG4(t *testing.T) {
	r := rand.New(rand.NewSource(23))
	for range 500 {
		p := Page{r.Int63n(1<<40 + 1), r.Int63n(1<<60 + 1), r.Int63n(1<<62) - r.Int63n(1<<62), r.Int63n(1<<61 + 1), ratio.Factor{Mult: r.Uint32() | 1, Shift: r.Intn(32)},
			ratio.Factor{Mult: r.Uint32() | 1, Shift: r.Intn(32)}, r.Int63n(1<<21 + 1), 1 + r.Int63n(1<<50)}
		w, lerr := Lay(p, 2*r.Uint64())
		a, aerr := Read(w)
		b, berr := Encode(p)
		c, cerr := Decode(b)
		if a != p || c != p || lerr != nil || aerr != nil || berr != nil || cerr != nil {
			t.Fatalf("%v: %v, %v", p, a, c)
		}
	}
}
