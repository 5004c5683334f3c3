package ntp_test

import (
	"bytes"
	"errors"
	"math"
	"math/big"
	"math/rand"
	"testing"

	"fusee/api"
	. "fusee/ntp"
	"fusee/sample"
	"fusee/span"
)

const (
	end    = 1 << 62
	second = 1000000000
)

// code is the number of an error, 0 without one.
func code(err error) int {
	var e api.Errno
	if err == nil {
		return 0
	}
	if errors.As(err, &e) {
		return int(e)
	}
	return -1
}

// with is a packet, changed.
func with(change func(p *Packet)) Packet {
	p := Packet{1, 4, 3, 7, -6, 10, 0x01020304, 0x05060708, [4]byte{'G', 'P', 'S', 0xff}, 0x1112131415161718, 0x2122232425262728, 0x3132333435363738, 0x4142434445464748}
	change(&p)
	return p
}

func good() []Packet {
	return []Packet{
		with(func(p *Packet) {}), with(func(p *Packet) { p.Leap, p.Version, p.Mode = 0, 1, 1 }), with(func(p *Packet) { p.Leap, p.Version, p.Mode = 3, 4, 5 }), with(func(p *Packet) { p.Leap, p.Version, p.Mode = 2, 2, 4 }),
		{Version: 1, Mode: 1}, with(func(p *Packet) {
			p.Stratum, p.Poll, p.Precision, p.Delay, p.Spread = 255, -128, 127, math.MaxUint32, math.MaxUint32
		}),
	}
}

func wrong() []Packet {
	return []Packet{
		{}, with(func(p *Packet) { p.Leap = 4 }), with(func(p *Packet) { p.Leap = 255 }), with(func(p *Packet) { p.Version = 0 }), with(func(p *Packet) { p.Version = 5 }), with(func(p *Packet) { p.Version = 8 }),
		with(func(p *Packet) { p.Mode = 0 }), with(func(p *Packet) { p.Mode = 6 }), with(func(p *Packet) { p.Mode = 8 }), with(func(p *Packet) { p.Mode = 255 }),
	}
}

// big32 are bytes with a number behind, the most significant byte first.
func big32(b []byte, n uint32) []byte {
	return append(b, byte(n>>24), byte(n>>16), byte(n>>8), byte(n))
}

// bytesOf is a packet's encoding, field by field.
func bytesOf(p Packet) []byte {
	b := []byte{p.Leap*64 + p.Version*8 + p.Mode, p.Stratum, byte(p.Poll), byte(p.Precision)}
	b = big32(big32(b, p.Delay), p.Spread)
	b = append(b, p.Name[:]...)
	for _, x := range []uint64{p.Set, p.Asked, p.Came, p.Sent} {
		b = big32(big32(b, uint32(x>>32)), uint32(x))
	}
	return b
}

func TestNT1Packets(t *testing.T) {
	for _, p := range good() {
		if Check(p) != nil {
			t.Errorf("Check(%v): %v", p, Check(p))
		}
		b, err := Encode(p)
		if !bytes.Equal(b, bytesOf(p)) || len(b) != 48 || err != nil {
			t.Errorf("Encode(%v): %x, %v", p, b, err)
		}
		if got, err := Decode(b); got != p || err != nil {
			t.Errorf("Decode: %v, %v", got, err)
		}
		for _, other := range [][]byte{nil, b[:47], append(bytes.Clone(b), 0), {}} {
			if got, err := Decode(other); got != (Packet{}) || code(err) != 3 {
				t.Errorf("Decode of %d bytes: %v, %v", len(other), got, err)
			}
		}
	}
	for _, p := range wrong() {
		b, err := Encode(p)
		a, aerr := Answer(p, 0, 0, 0)
		s, serr := Of(p, 0, 0)
		if code(Check(p)) != 1 || len(b) != 0 || code(err) != 1 || a != (Packet{}) || code(aerr) != 1 || s != (sample.Sample{}) || code(serr) != 1 {
			t.Errorf("%v: %v, %v, %v, %v", p, Check(p), err, aerr, serr)
		}
	}
	for first := range 256 {
		b := bytesOf(good()[0])
		b[0] = byte(first)
		got, err := Decode(b)
		fits := first/8%8 >= 1 && first/8%8 <= 4 && first%8 >= 1 && first%8 <= 5
		if fits != (err == nil) || fits && !bytes.Equal(bytesOf(got), b) || !fits && (got != Packet{} || code(err) != 3) {
			t.Errorf("first byte %d: %v, %v", first, got, err)
		}
	}
}

func times() []int64 {
	l := []int64{0, 1, -1, 999999999, second, -second, 1 - end, end - 1, 2085978495*second + 999999999, 2085978496 * second, -2208988800 * second, -2208988800*second - 1, 123456789*second + 500000000}
	r := rand.New(rand.NewSource(45))
	for range 500 {
		l = append(l, r.Int63n(end)-r.Int63n(end))
	}
	return l
}

// stamp is what Stamp should be.
func stamp(t int64) uint64 {
	s, n := new(big.Int).DivMod(big.NewInt(t), big.NewInt(second), new(big.Int))
	s.Add(s, big.NewInt(2208988800)).Mod(s, big.NewInt(1<<32))
	n.Lsh(n, 32).Div(n, big.NewInt(second))
	return s.Uint64()<<32 + n.Uint64()
}

func TestNT1Stamp(t *testing.T) {
	if s, err := Stamp(0); s != 0x83aa7e8000000000 || err != nil {
		t.Errorf("Stamp(0): %x, %v", s, err)
	}
	for _, x := range times() {
		if s, err := Stamp(x); s != stamp(x) || err != nil {
			t.Errorf("Stamp(%d): %x, %v; want %x", x, s, err, stamp(x))
		}
	}
	for _, x := range []int64{end, -end, math.MinInt64, math.MaxInt64} {
		s, err := Stamp(x)
		n, nerr := Near(5, x)
		p, perr := Ask(x)
		if s != 0 || code(err) != 1 || n != 0 || code(nerr) != 1 || p != (Packet{}) || code(perr) != 1 {
			t.Errorf("%d: %v, %v, %v", x, err, nerr, perr)
		}
	}
}

func TestNT1Short(t *testing.T) {
	for _, n := range []uint32{0, 1, 2, 65535, 65536, 65537, 1 << 31, math.MaxUint32, 12345} {
		want := new(big.Int).Mul(big.NewInt(int64(n)), big.NewInt(second))
		want.Add(want, big.NewInt(65535)).Rsh(want, 16)
		if got := Short(n); got != want.Int64() {
			t.Errorf("Short(%d): %d, want %v", n, got, want)
		}
	}
}

// near is what Near should be: all times that a stamp denotes are tried.
func near(s uint64, to int64) (int64, int) {
	whole := new(big.Int).Mul(big.NewInt(int64(s>>32)-2208988800), big.NewInt(second))
	part := new(big.Int).Mul(big.NewInt(int64(s&math.MaxUint32)), big.NewInt(second))
	part.Add(part, big.NewInt(1<<32-1)).Rsh(part, 32)
	whole.Add(whole, part)
	var best, far *big.Int
	for k := int64(-4); k <= 4; k++ {
		x := new(big.Int).Mul(big.NewInt(k<<32), big.NewInt(second))
		x.Add(x, whole)
		d := new(big.Int).Sub(x, big.NewInt(to))
		if best == nil || d.CmpAbs(far) < 0 {
			best, far = x, d
		}
	}
	if best.CmpAbs(big.NewInt(end)) >= 0 {
		return 0, 2
	}
	return best.Int64(), 0
}

func TestNT2(t *testing.T) {
	r := rand.New(rand.NewSource(46))
	half := int64(1<<31) * second
	failed := 0
	for _, x := range times() {
		for _, to := range []int64{x, x + 1, x - 1, x/2 + 5, -x, r.Int63n(end), -r.Int63n(end), end - 1, 1 - end, half, -half, half + 1, half - 1} {
			if to >= end || to <= -end {
				continue
			}
			for _, s := range []uint64{stamp(x), r.Uint64(), 0x83aa7e8000000000, 0, math.MaxUint64} {
				want, no := near(s, to)
				if no != 0 {
					failed++
				}
				if got, err := Near(s, to); got != want || code(err) != no {
					t.Fatalf("Near(%x, %d): %d, %v; want %d, %d", s, to, got, err, want, no)
				}
			}
		}
	}
	if failed == 0 {
		t.Error("no time was too late")
	}
	// Two are as near: the lesser one.
	if got, err := Near(0x83aa7e8000000000, half); got != 0 || err != nil {
		t.Errorf("Near between two: %d, %v", got, err)
	}
	if got, err := Near(0x83aa7e8000000000, -half); got != -2*half || err != nil {
		t.Errorf("Near between two: %d, %v", got, err)
	}
}

func TestNT3AskAndAnswer(t *testing.T) {
	for _, x := range times()[:50] {
		p, err := Ask(x)
		if p != (Packet{Version: 4, Mode: 3, Sent: stamp(x)}) || err != nil {
			t.Errorf("Ask(%d): %v, %v", x, p, err)
		}
	}
	ask := with(func(p *Packet) { p.Version = 2 })
	for _, e := range []int64{0, 1, 2, 15258, 15259, 15260, 15261, 30517, 30518, 30519, second, 1 << 30, 1<<30 - 1, 999, 1000000} {
		got, err := Answer(ask, 5*second, 6*second+7, e)
		want := Packet{Version: 2, Mode: 4, Stratum: 1, Spread: got.Spread, Set: stamp(5 * second), Asked: ask.Sent, Came: stamp(5 * second), Sent: stamp(6*second + 7)}
		if got != want || err != nil || Short(got.Spread) < e || got.Spread > 0 && Short(got.Spread-1) >= e {
			t.Errorf("Answer with %d: %v, %v", e, got, err)
		}
	}
	for _, c := range []struct {
		p               Packet
		came, sent, err int64
	}{
		{with(func(p *Packet) { p.Mode = 4 }), 0, 0, 0}, {with(func(p *Packet) { p.Mode = 1 }), 0, 0, 0}, {ask, 0, 0, -1}, {ask, 0, 0, 1<<30 + 1}, {ask, end, 0, 0}, {ask, 0, -end, 0}, {ask, 0, 0, math.MinInt64}, {ask, 0, 0, math.MaxInt64}, {ask, math.MinInt64, 0, 0},
	} {
		if got, err := Answer(c.p, c.came, c.sent, c.err); got != (Packet{}) || code(err) != 1 {
			t.Errorf("Answer(%v): %v, %v", c, got, err)
		}
	}
}

func TestNT3Of(t *testing.T) {
	asked, got := int64(1000*second), int64(1000*second+900)
	answer := func(change func(p *Packet)) Packet {
		p := Packet{Version: 4, Mode: 4, Stratum: 1, Delay: 3, Spread: 5, Asked: stamp(asked), Came: stamp(asked + 7000), Sent: stamp(asked + 7500)}
		change(&p)
		return p
	}
	// Delay is half of 45777 nanoseconds, Spread is 76294.
	want := sample.Sample{Asked: asked, Came: asked + 7000, Sent: asked + 7500, Got: got, Err: 22889 + 76294 + 2}
	for _, change := range []func(p *Packet){func(p *Packet) {}, func(p *Packet) { p.Stratum = 15 }, func(p *Packet) { p.Leap = 2 }, func(p *Packet) { p.Version, p.Set, p.Poll = 1, 77, 9 }} {
		if s, err := Of(answer(change), asked, got); s != want || err != nil {
			t.Errorf("Of: %v, %v; want %v", s, err, want)
		}
	}
	// Half of an even number of nanoseconds: Delay is 30518.
	if s, err := Of(answer(func(p *Packet) { p.Delay = 2 }), asked, got); s.Err != 15259+76294+2 || err != nil {
		t.Errorf("Of with an even delay: %v, %v", s, err)
	}
	for name, c := range map[string]struct {
		change     func(p *Packet)
		asked, got int64
		code       int
	}{
		"a packet that asks": {func(p *Packet) { p.Mode = 3 }, asked, got, 1}, "another mode": {func(p *Packet) { p.Mode = 5 }, end, got, 1}, "asked at no time": {func(p *Packet) { p.Leap = 3 }, end, got, 1},
		"asked at another time": {func(p *Packet) { p.Leap = 3 }, asked + 1, got, 19}, "an unknown time": {func(p *Packet) { p.Leap = 3 }, asked, end, 13}, "stratum 0": {func(p *Packet) { p.Stratum = 0 }, asked, got, 13}, "stratum 16": {func(p *Packet) { p.Stratum = 16 }, asked, got, 13},
		"got at no time": {func(p *Packet) {}, asked, end, 1}, "got too early": {func(p *Packet) {}, asked, asked - 1, 2}, "too short a way": {func(p *Packet) {}, asked, asked + 499, 2}, "sent before it came": {func(p *Packet) { p.Sent = stamp(asked + 6999) }, asked, got, 2},
		"too far off": {func(p *Packet) { p.Spread = math.MaxUint32 }, asked, got, 2}, "too long a way": {func(p *Packet) {}, asked, asked + 1<<40 + 1, 2},
	} {
		if s, err := Of(answer(c.change), c.asked, c.got); s != (sample.Sample{}) || code(err) != c.code {
			t.Errorf("%s: %v, %v; want %d", name, s, err, c.code)
		}
	}
	late := int64(end - 5)
	p := answer(func(p *Packet) { p.Asked, p.Came, p.Sent = stamp(late), stamp(end-1)+1<<34, stamp(end-1)+1<<34 })
	if s, err := Of(p, late, end-1); s != (sample.Sample{}) || code(err) != 2 {
		t.Errorf("Came beyond all times: %v, %v", s, err)
	}
}

func TestNT4(t *testing.T) {
	r := rand.New(rand.NewSource(47))
	for _, x := range times() {
		for range 10 {
			to := x + r.Int63n(2*68*31557600*second) - 68*31557600*second
			s, _ := Stamp(x)
			if to >= end || to <= -end {
				continue
			}
			if got, err := Near(s, to); got != x || err != nil {
				t.Fatalf("Near(Stamp(%d), %d): %d, %v", x, to, got, err)
			}
		}
	}
	for range 3000 {
		ahead, e := r.Int63n(second)-second/2, r.Int63n(1<<30+1)>>r.Intn(30)
		asked := r.Int63n(1<<60) - 1<<59
		arrived := asked + r.Int63n(1000000)
		left := arrived + r.Int63n(1000000)
		got := left + r.Int63n(1000000)
		off := r.Int63n(2*e+1) - e
		ask, aerr := Ask(asked)
		p, perr := Answer(ask, arrived+ahead+off, left+ahead+off, e)
		s, err := Of(p, asked, got)
		x, serr := sample.Of(s, 0)
		if aerr != nil || perr != nil || err != nil || serr != nil || !span.Has(x, ahead) {
			t.Fatalf("%v, %v, %v: %v has not %d (%v, %v, %v, %v)", p, s, off, x, ahead, aerr, perr, err, serr)
		}
	}
}
