package reader_test

import (
	"errors"
	"math"
	"math/rand"
	"testing"

	"fusee/api"
	"fusee/page"
	"fusee/publish"
	"fusee/ratio"
	. "fusee/reader"
)

// code is the number of an error, 0 without one.
func code(err error) int {
	var e api.Errno
	if err == nil {
		return 0
	}
	if errors.As(err, &e) {
		return int(e)
	}
	return -1
}

// some is a page with a time.
func some(tai int64) page.Page {
	f := ratio.Factor{Mult: 3, Shift: 1}
	return page.Page{Epoch: tai, Base: tai, Tai: tai, Err: tai, Go: f, Plain: f, Parts: 20, Cap: 100 + tai}
}

func laid(tai int64, seq uint64) page.Words {
	w, _ := page.Lay(some(tai), seq)
	return w
}

// counted are words that tell their places.
func counted(seq uint64) page.Words {
	w := page.Words{seq}
	for i := 1; i < 16; i++ {
		w[i] = uint64(100*i) + seq
	}
	return w
}

func TestRD1Steps(t *testing.T) {
	var r Reader
	want := Reader{}
	for step := range 16 {
		got, p, done, err := Step(counted(uint64(2*step)), r)
		want.Got[step] = counted(uint64(2 * step))[step]
		want.At = step + 1
		if got != want || p != (page.Page{}) || done || err != nil {
			t.Fatalf("step %d: %v, %v, %t, %v", step, got, p, done, err)
		}
		r = got
	}
	got, p, done, err := Step(counted(0), r)
	want.At = 17
	if got != want || p != (page.Page{}) || !done || code(err) != 4 {
		t.Errorf("the last step: %v, %v, %t, %v", got, p, done, err)
	}
	got, p, done, err = Step(counted(2), r)
	want.At, want.Tries = 0, 1
	if got != want || p != (page.Page{}) || done || err != nil {
		t.Errorf("another word 0: %v, %v, %t, %v", got, p, done, err)
	}
}

func TestRD1Page(t *testing.T) {
	r := Reader{Got: laid(5, 8), At: 16, Tries: 3}
	got, p, done, err := Step(laid(7, 8), r)
	r.At = 17
	if got != r || p != some(5) || !done || err != nil {
		t.Errorf("a page: %v, %v, %t, %v", got, p, done, err)
	}
	bad := r.Got
	bad[11], bad[15] = 1, 0
	bad[15] = page.Sum(bad)
	_, p, done, err = Step(bad, Reader{Got: bad, At: 16})
	if p != (page.Page{}) || !done || code(err) != 3 {
		t.Errorf("no page: %v, %t, %v", p, done, err)
	}
}

func TestRD1Failed(t *testing.T) {
	for tries := range 16 {
		for _, at := range []int{0, 16} {
			r := Reader{Got: counted(4), At: at, Tries: tries}
			got, p, done, err := Step(counted(7), r)
			if at == 0 {
				r.Got[0] = 7
			}
			r.At, r.Tries = 0, tries+1
			no := 0
			if tries == 15 {
				r.At, no = 17, 15
			}
			if got.Got[0] = r.Got[0]; got != r || p != (page.Page{}) || done != (tries == 15) || code(err) != no {
				t.Errorf("try %d at %d: %v, %v, %t, %v", tries, at, got, p, done, err)
			}
		}
	}
}

func TestRD1Errors(t *testing.T) {
	for _, c := range [][2]int{{-1, 0}, {17, 0}, {math.MinInt, 0}, {math.MaxInt, 0}, {0, -1}, {0, 16}, {16, 16}, {3, math.MaxInt}, {3, math.MinInt}} {
		r := Reader{counted(4), c[0], c[1]}
		if got, p, done, err := Step(counted(2), r); got != r || p != (page.Page{}) || !done || code(err) != 1 {
			t.Errorf("%v: %v, %v, %t, %v", c, got, p, done, err)
		}
	}
}

func TestRD2(t *testing.T) {
	odd := counted(1)
	repeat := func(w page.Words, n int, more ...page.Words) []page.Words {
		var l []page.Words
		for range n {
			l = append(l, w)
		}
		return append(l, more...)
	}
	mixed := repeat(laid(5, 2), 16, laid(6, 4))
	for _, c := range []struct {
		name         string
		l            []page.Words
		want         page.Page
		steps, tries int
		code         int
	}{
		{"nothing", nil, page.Page{}, 0, 0, 1},
		{"too much", make([]page.Words, 1001), page.Page{}, 0, 0, 1},
		{"just not too much", repeat(laid(5, 2), 1000), some(5), 17, 0, 0},
		{"one", repeat(laid(5, 2), 1), some(5), 17, 0, 0},
		{"always odd", repeat(odd, 1), page.Page{}, 16, 16, 15},
		{"odd at first", repeat(odd, 3, laid(5, 2)), some(5), 20, 3, 0},
		{"changed at the end", mixed, some(6), 34, 1, 0},
		{"changed, and odd then", repeat(laid(5, 2), 16, odd, odd, laid(6, 4)), some(6), 35, 2, 0},
		{"a wrong sum", repeat(counted(2), 1), page.Page{}, 17, 0, 4},
		{"zeros", make([]page.Words, 1), page.Page{}, 17, 0, 4},
		{"odd, and a wrong sum", repeat(odd, 5, counted(2)), page.Page{}, 22, 5, 4},
		{"fifteen odd ones", repeat(odd, 15, laid(9, 2)), some(9), 32, 15, 0},
	} {
		p, steps, tries, err := Play(c.l)
		if p != c.want || steps != c.steps || tries != c.tries || code(err) != c.code {
			t.Errorf("%s: %v, %d, %d, %v", c.name, p, steps, tries, err)
		}
	}
}

func TestRD3(t *testing.T) {
	r := rand.New(rand.NewSource(24))
	read := 0
	for range 2000 {
		there := page.Words{}
		there, _ = publish.All(there, some(0))
		next, writing := int64(1), false
		var w publish.Writer
		var l []page.Words
		busy := 1 + r.Intn(40)
		for range 300 {
			for range r.Intn(40) / busy {
				if !writing {
					w, _ = publish.Begin(there, some(next))
					next++
					writing = true
				}
				var done bool
				there, w, done = publish.Step(there, w)
				writing = !done
			}
			l = append(l, there)
		}
		p, _, _, err := Play(l)
		if err != nil {
			if code(err) != 15 {
				t.Fatal(err)
			}
			continue
		}
		read++
		if p.Tai < 0 || p.Tai >= next || p != some(p.Tai) {
			t.Fatalf("a page that never was: %v", p)
		}
	}
	if read < 100 {
		t.Errorf("only %d pages were read", read)
	}
}
