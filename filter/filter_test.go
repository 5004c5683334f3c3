package filter_test

import (
	"errors"
	"math"
	"math/rand"
	"slices"
	"testing"

	"fusee/api"
	. "fusee/filter"
	"fusee/span"
)

const end = 1 << 62

// code is the number of an error, 0 without one.
func code(err error) int {
	var e api.Errno
	if err == nil {
		return 0
	}
	if errors.As(err, &e) {
		return int(e)
	}
	return -1
}

func at(source int, when, lo, hi int64) Entry { return Entry{source, when, span.Span{Lo: lo, Hi: hi}} }

func good() []Filter {
	return []Filter{
		{}, {[]Entry{}}, {[]Entry{at(0, 0, 0, 0)}}, {[]Entry{at(7, end-1, math.MinInt64, math.MaxInt64)}},
		{[]Entry{at(0, 1-end, 0, 5), at(3, 0, 0, 5), at(7, 9, 1, 1)}},
		{[]Entry{at(0, 0, 0, 1), at(1, 0, 0, 1), at(2, 0, 0, 1), at(3, 0, 0, 1), at(4, 0, 0, 1), at(5, 0, 0, 1), at(6, 0, 0, 1), at(7, 0, 0, 1)}},
	}
}

func wrongEntries() []Entry {
	return []Entry{at(-1, 0, 0, 0), at(8, 0, 0, 0), at(0, end, 0, 0), at(0, -end, 0, 0), at(0, math.MinInt64, 0, 0), at(0, 0, 1, 0), at(math.MinInt, 0, 0, 0), at(math.MaxInt, 0, 0, 0)}
}

func TestFI1Check(t *testing.T) {
	for _, f := range good() {
		if err := Check(f); err != nil {
			t.Errorf("Check(%v): %v", f, err)
		}
		for _, e := range wrongEntries() {
			if got, err := Put(f, e); len(got.L) != 0 || code(err) != 1 {
				t.Errorf("Put(%v, %v): %v, %v", f, e, got, err)
			}
		}
	}
	bad := []Filter{{[]Entry{at(1, 0, 0, 0), at(1, 0, 0, 0)}}, {[]Entry{at(2, 0, 0, 0), at(1, 0, 0, 0)}}}
	nine := Filter{slices.Clone(good()[5].L)}
	nine.L = append(nine.L, at(8, 0, 0, 0))
	bad = append(bad, nine)
	for _, e := range wrongEntries() {
		bad = append(bad, Filter{[]Entry{e}})
	}
	for _, f := range bad {
		p, perr := Put(f, at(0, 0, 0, 0))
		b, n, berr := Best(f, Rule{0, 1}, 0)
		if code(Check(f)) != 1 || len(p.L) != 0 || code(perr) != 1 || b != (span.Span{}) || n != 0 || code(berr) != 1 {
			t.Errorf("%v: %v, %v, %v", f, Check(f), perr, berr)
		}
	}
}

func TestFI1Put(t *testing.T) {
	for _, f := range good() {
		for source := range 8 {
			before := slices.Clone(f.L)
			e := at(source, 77, -3, 3)
			got, err := Put(f, e)
			if err != nil || Check(got) != nil {
				t.Fatalf("Put: %v, %v", got, err)
			}
			for s := range 8 {
				is := func(x Entry) bool { return x.Source == s }
				i, j := slices.IndexFunc(got.L, is), slices.IndexFunc(f.L, is)
				switch {
				case s == source:
					if i < 0 || got.L[i] != e {
						t.Errorf("Put(%v, %v): %v", f, e, got)
					}
				case i < 0 != (j < 0) || i >= 0 && got.L[i] != f.L[j]:
					t.Errorf("Put(%v, %v): %v", f, e, got)
				}
			}
			for i := range got.L {
				got.L[i].At = 12345
			}
			if !slices.Equal(f.L, before) {
				t.Error("Put shares memory with its argument")
			}
		}
	}
}

func TestFI2(t *testing.T) {
	agree := Filter{[]Entry{at(0, 0, 0, 10), at(1, 0, 5, 15), at(2, 0, 100, 110)}}
	half := Filter{[]Entry{at(0, 0, 0, 10), at(1, 0, 5, 15), at(2, 0, 100, 110), at(3, 0, 200, 210)}}
	for _, c := range []struct {
		name string
		f    Filter
		r    Rule
		now  int64
		want span.Span
		n    int
		code int
	}{
		{"two of three", agree, Rule{0, 100}, 0, span.Span{Lo: 5, Hi: 10}, 2, 0},
		{"two of four", half, Rule{0, 100}, 0, span.Span{}, 0, 13},
		{"none", Filter{}, Rule{0, 100}, 0, span.Span{}, 0, 13},
		{"as old as kept", agree, Rule{0, 100}, 100, span.Span{Lo: 5, Hi: 10}, 2, 0},
		{"older", agree, Rule{0, 100}, 101, span.Span{}, 0, 13},
		{"not yet", agree, Rule{0, 100}, -1, span.Span{}, 0, 13},
		{"only one counts", Filter{[]Entry{at(0, 0, 0, 10), at(1, 50, 20, 30)}}, Rule{0, 49}, 50, span.Span{Lo: 20, Hi: 30}, 1, 0},
		{"grown", Filter{[]Entry{at(0, 0, 0, 10)}}, Rule{1 << 20, 1 << 50}, 1024, span.Span{Lo: -1, Hi: 11}, 1, 0},
		{"grown, rounded up", Filter{[]Entry{at(0, 0, 0, 10)}}, Rule{1 << 20, 1 << 50}, 1025, span.Span{Lo: -2, Hi: 12}, 1, 0},
		{"grown together", Filter{[]Entry{at(0, 0, 0, 10), at(1, 1024, 12, 20)}}, Rule{1 << 20, 1 << 50}, 2048, span.Span{Lo: 11, Hi: 12}, 2, 0},
		{"bounded", Filter{[]Entry{at(0, 0, math.MinInt64, math.MaxInt64)}}, Rule{1 << 20, 1 << 50}, 1 << 50, span.Span{Lo: math.MinInt64, Hi: math.MaxInt64}, 1, 0},
		{"Rho below 0", agree, Rule{-1, 100}, 0, span.Span{}, 0, 1},
		{"Rho too great", agree, Rule{1<<20 + 1, 100}, 0, span.Span{}, 0, 1},
		{"the least Keep", agree, Rule{0, 1}, 1, span.Span{Lo: 5, Hi: 10}, 2, 0},
		{"Keep 0", agree, Rule{0, 0}, 0, span.Span{}, 0, 1},
		{"Keep too great", agree, Rule{0, 1<<50 + 1}, 0, span.Span{}, 0, 1},
		{"greatest Rho and Keep", agree, Rule{1 << 20, 1 << 50}, 0, span.Span{Lo: 5, Hi: 10}, 2, 0},
		{"now too late", Filter{}, Rule{0, 100}, end, span.Span{}, 0, 1},
		{"now too early", Filter{}, Rule{0, 100}, -end, span.Span{}, 0, 1},
		{"now the least number", Filter{}, Rule{0, 100}, math.MinInt64, span.Span{}, 0, 1},
		{"now far from At", Filter{[]Entry{at(0, 1-end, 0, 10)}}, Rule{0, 100}, end - 1, span.Span{}, 0, 13},
		{"At far from now", Filter{[]Entry{at(0, end-1, 0, 10)}}, Rule{0, 100}, 1 - end, span.Span{}, 0, 13},
	} {
		if got, n, err := Best(c.f, c.r, c.now); got != c.want || n != c.n || code(err) != c.code {
			t.Errorf("%s: %v, %d, %v; want %v, %d, %d", c.name, got, n, err, c.want, c.n, c.code)
		}
	}
}

func TestFI3(t *testing.T) {
	r := rand.New(rand.NewSource(16))
	for range 3000 {
		var f Filter
		right, rule, now := 0, Rule{r.Int63n(1 << 20), 1 + r.Int63n(5000)}, int64(4000)
		const truth = 500
		count := 0
		var correct []Entry
		for source := range 1 + r.Intn(8) {
			e := at(source, r.Int63n(5000), 0, 0)
			if r.Intn(4) > 0 {
				e.S = span.Span{Lo: truth - r.Int63n(50), Hi: truth + r.Int63n(50)}
			} else {
				e.S.Lo = r.Int63n(1000)
				e.S.Hi = e.S.Lo + r.Int63n(50)
			}
			f.L = append(f.L, e)
			if now < e.At || now-e.At > rule.Keep {
				continue
			}
			count++
			if span.Has(e.S, truth) {
				right++
				correct = append(correct, e)
			}
		}
		got, _, err := Best(f, rule, now)
		if 2*right <= count {
			continue
		}
		if err != nil {
			t.Fatalf("Best(%v, %v): %v", f, rule, err)
		}
		if right == count && !span.Has(got, truth) {
			t.Fatalf("Best(%v, %v): %v", f, rule, got)
		}
		if !slices.ContainsFunc(correct, func(e Entry) bool {
			by := (rule.Rho*(now-e.At) + 1<<30 - 1) >> 30
			return got.Lo >= e.S.Lo-by && got.Hi <= e.S.Hi+by
		}) {
			t.Fatalf("Best(%v, %v): %v is within no correct entry", f, rule, got)
		}
	}
}
