package publish_test

import (
	"errors"
	"math"
	"testing"

	"fusee/api"
	"fusee/page"
	. "fusee/publish"
	"fusee/ratio"
)

// code is the number of an error, 0 without one.
func code(err error) int {
	var e api.Errno
	if err == nil {
		return 0
	}
	if errors.As(err, &e) {
		return int(e)
	}
	return -1
}

// some is a page with a time.
func some(tai int64) page.Page {
	f := ratio.Factor{Mult: 3, Shift: 1}
	return page.Page{Epoch: 5, Base: 1000, Tai: tai, Err: 9, Go: f, Plain: f, Parts: 20, Cap: 100}
}

// full are words without a zero among them.
func full(seq uint64) page.Words {
	w := page.Words{seq}
	for i := 1; i < 16; i++ {
		w[i] = uint64(i) * 1000003
	}
	return w
}

func TestPB1Begin(t *testing.T) {
	for _, c := range []struct {
		there page.Words
		p     page.Page
		code  int
	}{
		{page.Words{}, some(1), 0}, {full(6), some(1), 0}, {full(math.MaxUint64 - 3), some(2), 0},
		{full(math.MaxUint64 - 1), some(1), 2}, {full(7), some(1), 19}, {full(math.MaxUint64), some(1), 19},
		{full(6), page.Page{}, 1}, {full(7), page.Page{}, 1}, {full(math.MaxUint64 - 1), page.Page{}, 1},
	} {
		w, err := Begin(c.there, c.p)
		all, aerr := All(c.there, c.p)
		if code(err) != c.code || code(aerr) != c.code {
			t.Errorf("Begin over %d: %v, %v", c.there[0], err, aerr)
		}
		want, _ := page.Lay(c.p, c.there[0]+2)
		if c.code != 0 {
			want = page.Words{}
		}
		if w != (Writer{want, 0}) || all != want {
			t.Errorf("over %d: %v, %v", c.there[0], w, all)
		}
	}
}

func TestPB1Step(t *testing.T) {
	there := full(6)
	w, _ := Begin(there, some(77))
	next := w.Next
	for step := range 17 {
		want := there
		switch step {
		case 0:
			want[0] = 7
		case 16:
			want[0] = 8
		default:
			want[step] = next[step]
		}
		var done bool
		there, w, done = Step(there, w)
		if there != want || w != (Writer{next, step + 1}) || done != (step == 16) {
			t.Fatalf("step %d: %v, %v, %t", step, there, w, done)
		}
	}
	for _, at := range []int{-1, 17, 18, math.MinInt, math.MaxInt} {
		got, w, done := Step(full(3), Writer{next, at})
		if got != full(3) || w != (Writer{next, 17}) || !done {
			t.Errorf("At %d: %v, %v, %t", at, got, w, done)
		}
	}
	if got, _, _ := Step(full(9), Writer{page.Words{}, 0}); got[0] != math.MaxUint64 {
		t.Errorf("one less than 0: %d", got[0])
	}
}

func TestPB2Mend(t *testing.T) {
	for seq, want := range map[uint64]uint64{0: 0, 6: 6, 7: 8, 1: 2, math.MaxUint64: 0, math.MaxUint64 - 1: math.MaxUint64 - 1} {
		w := full(seq)
		w[0] = want
		if got := Mend(full(seq)); got != w {
			t.Errorf("Mend of %d: %v", seq, got)
		}
	}
}

func TestPB2All(t *testing.T) {
	there, err := All(page.Words{}, some(1))
	if there[0] != 2 || err != nil {
		t.Errorf("All over nothing: %v, %v", there, err)
	}
	w, _ := Begin(page.Words{}, some(1))
	if first, _, _ := Step(page.Words{}, w); first[0] != 1 {
		t.Errorf("the first step over nothing: %v", first)
	}
}

func TestPB3(t *testing.T) {
	there := page.Words{}
	for n := range int64(20) {
		w, err := Begin(there, some(n))
		if err != nil {
			t.Fatal(err)
		}
		for done := false; !done; {
			there, w, done = Step(there, w)
			if done != (there[0]%2 == 0) {
				t.Fatalf("page %d, step %d: %d", n, w.At, there[0])
			}
		}
		if p, err := page.Read(there); p != some(n) || err != nil {
			t.Fatalf("page %d: %v, %v", n, p, err)
		}
		// A writer that went down leaves words that may be written again, but none that are a page.
		w, _ = Begin(there, some(n+100))
		for range 8 {
			there, w, _ = Step(there, w)
		}
		there = Mend(there)
		if _, err := page.Read(there); code(err) != 4 {
			t.Fatalf("half a page: %v", err)
		}
	}
}
