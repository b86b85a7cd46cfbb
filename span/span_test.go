package span_test

import (
	"math"
	"slices"
	"testing"

	"tideway/api"
	"tideway/span"
)

// row answers spans by their ends: From, To, From, To ..
func row(ends ...int) []api.Span {
	var l []api.Span
	for i := 0; i+1 < len(ends); i += 2 {
		l = append(l, api.Span{From: ends[i], To: ends[i+1]})
	}
	return l
}

// at answers one span.
func at(from, to int) api.Span { return api.Span{From: from, To: to} }

// wide is how many offsets the small world of the exhaustive tests has.
const wide = 8

// rowOf answers the row of those offsets, base on, whose bits are set: by P6.1's words, one run of bits a span.
func rowOf(bits uint, base int) []api.Span {
	var l []api.Span
	for i := range wide {
		if bits>>i&1 == 0 {
			continue
		}
		if i > 0 && bits>>(i-1)&1 == 1 {
			l[len(l)-1].To++
		} else {
			l = append(l, at(base+i, base+i+1))
		}
	}
	return l
}

// bitsOf answers the offsets of a span in the small world as bits.
func bitsOf(s api.Span, base int) uint {
	bits := uint(0)
	for i := range wide {
		if base+i >= s.From && base+i < s.To {
			bits |= 1 << i
		}
	}
	return bits
}

// bases are where the small worlds lie: at the beginning, in the midst, at the end of all offsets.
func bases() []int { return []int{0, 1000, api.MaxOffset - wide} }

// smallSpans are all spans with ends in a small world and about it.
func smallSpans(base int) []api.Span {
	var out []api.Span
	for from := base - 2; from <= base+wide+2; from++ {
		for to := base - 2; to <= base+wide+2; to++ {
			out = append(out, at(from, to))
		}
	}
	return out
}

// mayBeAdded tells by P6.2's words whether a span may be added or cut.
func mayBeAdded(s api.Span) bool {
	return s.From >= 0 && s.From <= s.To && s.To <= 1<<50
}

// wrongRows are rows that may not be.
func wrongRows() [][]api.Span {
	return [][]api.Span{
		row(-1, 3),
		row(math.MinInt, 3),
		row(-5, -2),
		row(-1, math.MaxInt),
		row(0, 0),
		row(3, 3),
		row(4, 3),
		row(3, math.MinInt),
		row(math.MaxInt, math.MinInt),
		row(0, api.MaxOffset+1),
		row(0, math.MaxInt),
		row(api.MaxOffset, api.MaxOffset),
		row(api.MaxOffset, api.MaxOffset+1),
		row(api.MaxOffset+1, api.MaxOffset+2),
		row(0, 2, 2, 4),
		row(0, 2, 1, 4),
		row(0, 4, 1, 2),
		row(1, 4, 0, 2),
		row(0, 2, 0, 2),
		row(5, 7, 0, 2),
		row(0, 2, 4, 4),
		row(0, 2, 5, 4),
		row(0, 2, 4, 6, 6, 8),
		row(0, 2, 4, 6, 5, 8),
		row(0, 2, 8, 9, 4, 6),
		row(4, 6, 0, 2, 8, 9),
		row(-2, 1, 4, 6, 8, 9),
		row(0, 2, 4, 6, 8, api.MaxOffset+1),
		row(0, 2, -4, -3, 8, 9),
		row(0, 0, 2, 4),
		row(2, 4, 0, 0),
	}
}

// rightRows are rows that may be.
func rightRows() [][]api.Span {
	return [][]api.Span{
		nil,
		{},
		row(0, 1),
		row(0, 5),
		row(3, 5),
		row(0, api.MaxOffset),
		row(api.MaxOffset-1, api.MaxOffset),
		row(0, 2, 3, 4),
		row(0, 2, 6, 7),
		row(0, 1, 2, 3, 4, 5, 6, 7),
		row(10, 20, 30, 40, 50, 60),
		row(0, 1, api.MaxOffset-1, api.MaxOffset),
		row(0, api.MaxOffset/2, api.MaxOffset/2+1, api.MaxOffset),
	}
}

// someSpans are spans about the rows above, right and wrong ones.
func someSpans() []api.Span {
	var out []api.Span
	ends := []int{math.MinInt, -api.MaxOffset, -2, -1, 0, 1, 2, 3, 4, 5, 6, 7, 25, 45, 60,
		api.MaxOffset - 1, api.MaxOffset, api.MaxOffset + 1, math.MaxInt}
	for _, from := range ends {
		for _, to := range ends {
			out = append(out, at(from, to))
		}
	}
	return out
}

// P6.1: Check

func TestCheck(t *testing.T) {
	for _, l := range rightRows() {
		if e := span.Check(l); e != 0 {
			t.Errorf("Check(%v) = %d", l, e)
		}
	}
	for _, l := range wrongRows() {
		if e := span.Check(l); e != 60 {
			t.Errorf("Check(%v) = %d", l, e)
		}
	}
}

// Every row of up to three spans with ends from -1 to 6 is held against P6.1's words.
func TestCheckOfAllSmallRows(t *testing.T) {
	var spans []api.Span
	for from := -1; from <= 6; from++ {
		for to := -1; to <= 6; to++ {
			spans = append(spans, at(from, to))
		}
	}
	try := func(l []api.Span) {
		want := api.OK
		for i, s := range l {
			if s.From < 0 || s.From >= s.To || i > 0 && s.From <= l[i-1].To {
				want = api.ErrSpan
			}
		}
		if e := span.Check(l); e != want {
			t.Fatalf("Check(%v) = %d, want %d", l, e, want)
		}
	}
	for _, a := range spans {
		try([]api.Span{a})
		for _, b := range spans {
			try([]api.Span{a, b})
			for _, c := range spans {
				try([]api.Span{a, b, c})
			}
		}
	}
}

// No length of a row is refused.
func TestCheckOfManySpans(t *testing.T) {
	var l []api.Span
	for i := range api.MaxSpans + 2 {
		l = append(l, at(2*i, 2*i+1))
	}
	for _, n := range []int{api.MaxSpans - 1, api.MaxSpans, api.MaxSpans + 1, api.MaxSpans + 2} {
		if e := span.Check(l[:n]); e != api.OK || span.Size(l[:n]) != n {
			t.Errorf("Check of %d spans = %d, Size %d", n, e, span.Size(l[:n]))
		}
	}
	l[api.MaxSpans+1].From--
	if e := span.Check(l); e != api.ErrSpan {
		t.Errorf("Check of many spans, of which the last one touches = %d", e)
	}
}

// P6.1: what a row that may not be is answered

func TestWrongRows(t *testing.T) {
	for _, l := range wrongRows() {
		for _, s := range someSpans() {
			if got, e := span.Add(l, s); e != 60 || len(got) != 0 {
				t.Fatalf("Add(%v, %v) = %v, %d", l, s, got, e)
			}
			if got, e := span.Cut(l, s); e != 60 || len(got) != 0 {
				t.Fatalf("Cut(%v, %v) = %v, %d", l, s, got, e)
			}
			if span.Covers(l, s) {
				t.Fatalf("Covers(%v, %v)", l, s)
			}
			if got := span.Gaps(l, s); len(got) != 0 {
				t.Fatalf("Gaps(%v, %v) = %v", l, s, got)
			}
			if span.Has(l, s.From) {
				t.Fatalf("Has(%v, %d)", l, s.From)
			}
			if got, ok := span.Find(l, s.From); ok || got != (api.Span{}) {
				t.Fatalf("Find(%v, %d) = %v, %v", l, s.From, got, ok)
			}
		}
		if n := span.Size(l); n != 0 {
			t.Errorf("Size(%v) = %d", l, n)
		}
	}
}

// P6.2: Add

func TestAdd(t *testing.T) {
	l := row(10, 20, 30, 40, 50, 60)
	for _, c := range []struct {
		s    api.Span
		want []api.Span
	}{
		{at(0, 5), row(0, 5, 10, 20, 30, 40, 50, 60)},                   // ahead of all
		{at(0, 9), row(0, 9, 10, 20, 30, 40, 50, 60)},                   // ahead of all, one apart
		{at(70, 80), row(10, 20, 30, 40, 50, 60, 70, 80)},               // behind all
		{at(61, 62), row(10, 20, 30, 40, 50, 60, 61, 62)},               // behind all, one apart
		{at(60, 62), row(10, 20, 30, 40, 50, 62)},                       // touches the last
		{at(5, 10), row(5, 20, 30, 40, 50, 60)},                         // touches the first
		{at(20, 25), row(10, 25, 30, 40, 50, 60)},                       // touches the one ahead
		{at(25, 30), row(10, 20, 25, 40, 50, 60)},                       // touches the one behind
		{at(20, 30), row(10, 40, 50, 60)},                               // touches both
		{at(21, 29), row(10, 20, 21, 29, 30, 40, 50, 60)},               // touches neither
		{at(15, 25), row(10, 25, 30, 40, 50, 60)},                       // overlaps the one ahead
		{at(25, 35), row(10, 20, 25, 40, 50, 60)},                       // overlaps the one behind
		{at(15, 35), row(10, 40, 50, 60)},                               // overlaps both
		{at(12, 18), l},                                                 // within one
		{at(10, 20), l},                                                 // one itself
		{at(5, 25), row(5, 25, 30, 40, 50, 60)},                         // covers one
		{at(5, 45), row(5, 45, 50, 60)},                                 // covers several
		{at(0, 100), row(0, 100)},                                       // covers all
		{at(10, 60), row(10, 60)},                                       // covers all, ends alike
		{at(0, api.MaxOffset), row(0, api.MaxOffset)},                   // all offsets
		{at(60, api.MaxOffset), row(10, 20, 30, 40, 50, 1<<50)},         // up to the limit
		{at(61, api.MaxOffset), row(10, 20, 30, 40, 50, 60, 61, 1<<50)}, // up to the limit, apart
		{at(0, 0), l}, // no offsets
		{at(10, 10), l},
		{at(15, 15), l},
		{at(20, 20), l},
		{at(25, 25), l},
		{at(60, 60), l},
		{at(api.MaxOffset, api.MaxOffset), l},
	} {
		if got, e := span.Add(l, c.s); e != api.OK || !slices.Equal(got, c.want) {
			t.Errorf("Add(%v, %v) = %v, %d, want %v", l, c.s, got, e, c.want)
		}
	}
	if got, e := span.Add(nil, at(3, 4)); e != api.OK || !slices.Equal(got, row(3, 4)) {
		t.Errorf("Add to none = %v, %d", got, e)
	}
	if got, e := span.Add(nil, at(3, 3)); e != api.OK || len(got) != 0 {
		t.Errorf("Add of none to none = %v, %d", got, e)
	}
}

// P6.2: Cut

func TestCut(t *testing.T) {
	l := row(10, 20, 30, 40, 50, 60)
	for _, c := range []struct {
		s    api.Span
		want []api.Span
	}{
		{at(0, 5), l},   // ahead of all
		{at(0, 10), l},  // touches the first
		{at(70, 80), l}, // behind all
		{at(60, 80), l}, // touches the last
		{at(20, 30), l}, // between two
		{at(22, 28), l},
		{at(15, 16), row(10, 15, 16, 20, 30, 40, 50, 60)}, // parts one into two
		{at(31, 39), row(10, 20, 30, 31, 39, 40, 50, 60)},
		{at(10, 20), row(30, 40, 50, 60)}, // one whole
		{at(30, 40), row(10, 20, 50, 60)},
		{at(50, 60), row(10, 20, 30, 40)},
		{at(5, 25), row(30, 40, 50, 60)},
		{at(10, 15), row(15, 20, 30, 40, 50, 60)}, // a beginning
		{at(15, 20), row(10, 15, 30, 40, 50, 60)}, // an end
		{at(5, 15), row(15, 20, 30, 40, 50, 60)},
		{at(15, 25), row(10, 15, 30, 40, 50, 60)},
		{at(15, 35), row(10, 15, 35, 40, 50, 60)}, // of two
		{at(15, 55), row(10, 15, 55, 60)},         // of three, one whole
		{at(5, 45), row(50, 60)},                  // several whole
		{at(0, 100), nil},                         // all
		{at(10, 60), nil},
		{at(0, api.MaxOffset), nil},
		{at(59, api.MaxOffset), row(10, 20, 30, 40, 50, 59)},
		{at(0, 0), l}, // no offsets
		{at(10, 10), l},
		{at(15, 15), l},
		{at(20, 20), l},
		{at(25, 25), l},
		{at(api.MaxOffset, api.MaxOffset), l},
	} {
		if got, e := span.Cut(l, c.s); e != api.OK || !slices.Equal(got, c.want) {
			t.Errorf("Cut(%v, %v) = %v, %d, want %v", l, c.s, got, e, c.want)
		}
	}
	if got, e := span.Cut(nil, at(3, 4)); e != api.OK || len(got) != 0 {
		t.Errorf("Cut of none = %v, %d", got, e)
	}
}

// P6.2: what may not be added or cut; a row that may not be is told first

func TestWrongSpans(t *testing.T) {
	for _, l := range rightRows() {
		for _, s := range someSpans() {
			want := api.OK
			if !mayBeAdded(s) {
				want = 2
			}
			got, e := span.Add(l, s)
			if e != want || e != api.OK && len(got) != 0 {
				t.Fatalf("Add(%v, %v) = %v, %d, want %d", l, s, got, e, want)
			}
			got, e = span.Cut(l, s)
			if e != want || e != api.OK && len(got) != 0 {
				t.Fatalf("Cut(%v, %v) = %v, %d, want %d", l, s, got, e, want)
			}
		}
	}
}

// P6.2: Add, Cut, Covers and Gaps of every row and every span of a small world

func TestAllOfSmallWorlds(t *testing.T) {
	for _, base := range bases() {
		for bits := range uint(1) << wide {
			l := rowOf(bits, base)
			for _, s := range smallSpans(base) {
				addAndCut(t, base, bits, l, s)
				coversAndGaps(t, base, bits, l, s)
			}
		}
	}
}

func addAndCut(t *testing.T, base int, bits uint, l []api.Span, s api.Span) {
	t.Helper()
	added, e := span.Add(l, s)
	left, f := span.Cut(l, s)
	if !mayBeAdded(s) {
		if e != api.ErrArg || f != api.ErrArg || len(added) != 0 || len(left) != 0 {
			t.Fatalf("Add(%v, %v) = %v, %d; Cut = %v, %d", l, s, added, e, left, f)
		}
		return
	}
	// In the midst s may stand out of the small world: then Cut's alone is held against it.
	if s.From >= base && s.To <= base+wide {
		if want := rowOf(bits|bitsOf(s, base), base); e != api.OK || !slices.Equal(added, want) {
			t.Fatalf("Add(%v, %v) = %v, %d, want %v", l, s, added, e, want)
		}
	}
	if want := rowOf(bits&^bitsOf(s, base), base); f != api.OK || !slices.Equal(left, want) {
		t.Fatalf("Cut(%v, %v) = %v, %d, want %v", l, s, left, f, want)
	}
	if span.Check(added) != api.OK || span.Check(left) != api.OK {
		t.Fatalf("Add(%v, %v) = %v, Cut = %v: no rows", l, s, added, left)
	}
}

func coversAndGaps(t *testing.T, base int, bits uint, l []api.Span, s api.Span) {
	t.Helper()
	var want []api.Span
	for x := s.From; x < s.To; x++ {
		if i := x - base; i >= 0 && i < wide && bits>>i&1 == 1 {
			continue
		}
		if n := len(want); n > 0 && want[n-1].To == x {
			want[n-1].To++
		} else {
			want = append(want, at(x, x+1))
		}
	}
	if got := span.Gaps(l, s); !slices.Equal(got, want) {
		t.Fatalf("Gaps(%v, %v) = %v, want %v", l, s, got, want)
	}
	if got := span.Covers(l, s); got != (len(want) == 0) {
		t.Fatalf("Covers(%v, %v) = %v", l, s, got)
	}
}

// P6.2: Has and Find

func TestHasAndFind(t *testing.T) {
	l := row(0, 2, 6, 7, 10, 20, api.MaxOffset-3, api.MaxOffset)
	for _, c := range []struct {
		x    int
		want api.Span
		ok   bool
	}{
		{math.MinInt, at(0, 0), false},
		{-1, at(0, 0), false},
		{0, at(0, 2), true},
		{1, at(0, 2), true},
		{2, at(0, 0), false},
		{4, at(0, 0), false},
		{5, at(0, 0), false},
		{6, at(6, 7), true},
		{7, at(0, 0), false},
		{9, at(0, 0), false},
		{10, at(10, 20), true},
		{15, at(10, 20), true},
		{19, at(10, 20), true},
		{20, at(0, 0), false},
		{api.MaxOffset - 4, at(0, 0), false},
		{api.MaxOffset - 3, at(api.MaxOffset-3, api.MaxOffset), true},
		{api.MaxOffset - 1, at(api.MaxOffset-3, api.MaxOffset), true},
		{api.MaxOffset, at(0, 0), false},
		{api.MaxOffset + 1, at(0, 0), false},
		{math.MaxInt, at(0, 0), false},
	} {
		if got, ok := span.Find(l, c.x); got != c.want || ok != c.ok {
			t.Errorf("Find(%v, %d) = %v, %v", l, c.x, got, ok)
		}
		if ok := span.Has(l, c.x); ok != c.ok {
			t.Errorf("Has(%v, %d) = %v", l, c.x, ok)
		}
		if got, ok := span.Find(nil, c.x); ok || got != (api.Span{}) || span.Has(nil, c.x) {
			t.Errorf("Find of none at %d = %v, %v", c.x, got, ok)
		}
	}
}

func TestHasAndFindInSmallWorlds(t *testing.T) {
	for _, base := range bases() {
		for bits := range uint(1) << wide {
			l := rowOf(bits, base)
			for i := -2; i < wide+2; i++ {
				x := base + i
				want := i >= 0 && i < wide && bits>>i&1 == 1
				got, ok := span.Find(l, x)
				if ok != want || span.Has(l, x) != want {
					t.Fatalf("Find(%v, %d) = %v, %v", l, x, got, ok)
				}
				if want && (!slices.Contains(l, got) || x < got.From || x >= got.To) || !want && got != (api.Span{}) {
					t.Fatalf("Find(%v, %d) = %v", l, x, got)
				}
			}
		}
	}
}

// P6.2: Covers and Gaps where s reaches out of all offsets

func TestCoversAndGapsBeyondTheLimits(t *testing.T) {
	all := row(0, api.MaxOffset)
	some := row(0, 2, 6, 7)
	for _, c := range []struct {
		l    []api.Span
		s    api.Span
		want []api.Span
	}{
		{all, at(0, api.MaxOffset), nil},
		{all, at(1, api.MaxOffset-1), nil},
		{all, at(-1, 1), row(-1, 0)},
		{all, at(-9, -3), row(-9, -3)},
		{all, at(5, api.MaxOffset+1), row(api.MaxOffset, api.MaxOffset+1)},
		{all, at(api.MaxOffset, api.MaxOffset+1), row(api.MaxOffset, api.MaxOffset+1)},
		{all, at(math.MinInt, math.MaxInt), row(math.MinInt, 0, api.MaxOffset, math.MaxInt)},
		{all, at(math.MaxInt, math.MinInt), nil},
		{some, at(-4, 9), row(-4, 0, 2, 6, 7, 9)},
		{some, at(math.MinInt, math.MaxInt), row(math.MinInt, 0, 2, 6, 7, math.MaxInt)},
		{some, at(math.MaxInt, math.MinInt), nil},
		{some, at(math.MinInt, math.MinInt), nil},
		{some, at(math.MaxInt, math.MaxInt), nil},
		{nil, at(math.MinInt, math.MaxInt), row(math.MinInt, math.MaxInt)},
		{nil, at(0, api.MaxOffset), row(0, api.MaxOffset)},
		{nil, at(4, 4), nil},
		{nil, at(5, 4), nil},
		{some, at(4, 4), nil}, // From at To, between two
		{some, at(5, 3), nil}, // From above To
		{some, at(9, 1), nil},
		{some, at(-1, -1), nil},
		{some, at(-1, -2), nil},
		{some, at(0, 2), nil}, // had whole
		{some, at(1, 2), nil},
		{some, at(1, 7), row(2, 6)},        // had in part
		{some, at(2, 6), row(2, 6)},        // not had at all
		{some, at(3, 5), row(3, 5)},        // within a gap
		{some, at(7, 12), row(7, 12)},      // behind all
		{row(6, 7), at(1, 3), row(1, 3)},   // ahead of all
		{row(6, 7), at(1, 6), row(1, 6)},   // up to the first
		{row(6, 7), at(1, 7), row(1, 6)},   // with the first
		{row(6, 9), at(7, 12), row(9, 12)}, // from within one on
	} {
		if got := span.Gaps(c.l, c.s); !slices.Equal(got, c.want) {
			t.Errorf("Gaps(%v, %v) = %v, want %v", c.l, c.s, got, c.want)
		}
		if got := span.Covers(c.l, c.s); got != (len(c.want) == 0) {
			t.Errorf("Covers(%v, %v) = %v", c.l, c.s, got)
		}
	}
}

// P6.2: Size

func TestSize(t *testing.T) {
	for _, c := range []struct {
		l    []api.Span
		want int
	}{
		{nil, 0},
		{row(0, 1), 1},
		{row(7, 10), 3},
		{row(0, 2, 6, 7), 3},
		{row(10, 20, 30, 40, 50, 61), 31},
		{row(0, api.MaxOffset), api.MaxOffset},
		{row(0, 5, 6, api.MaxOffset), api.MaxOffset - 1},
		{row(api.MaxOffset-1, api.MaxOffset), 1},
	} {
		if got := span.Size(c.l); got != c.want {
			t.Errorf("Size(%v) = %d, want %d", c.l, got, c.want)
		}
	}
	for bits := range uint(1) << wide {
		want := 0
		for i := range wide {
			want += int(bits >> i & 1)
		}
		if got := span.Size(rowOf(bits, 3)); got != want {
			t.Fatalf("Size(%v) = %d, want %d", rowOf(bits, 3), got, want)
		}
	}
}

// P6.3: what is added is had, what is cut is not, all else is as it was

func TestAddedIsHadAndCutIsNot(t *testing.T) {
	for _, l := range rightRows() {
		for _, s := range someSpans() {
			if !mayBeAdded(s) {
				continue
			}
			added, _ := span.Add(l, s)
			left, _ := span.Cut(l, s)
			if !span.Covers(added, s) || s.From < s.To && (!span.Has(added, s.From) || !span.Has(added, s.To-1)) {
				t.Fatalf("Add(%v, %v) = %v: not had", l, s, added)
			}
			wholly := []api.Span(nil)
			if s.From < s.To {
				wholly = []api.Span{s}
			}
			if got := span.Gaps(left, s); !slices.Equal(got, wholly) {
				t.Fatalf("Cut(%v, %v) = %v: something of it is had", l, s, left)
			}
			for _, x := range []int{-1, 0, 1, 2, 4, 6, 8, 10, 19, 20, 29, 30, 59, 60, 1 << 49, s.From - 1, s.To, api.MaxOffset - 1, api.MaxOffset} {
				in := x >= s.From && x < s.To
				if span.Has(added, x) != (in || span.Has(l, x)) || span.Has(left, x) != (!in && span.Has(l, x)) {
					t.Fatalf("%d of Add(%v, %v) = %v, of Cut = %v", x, l, s, added, left)
				}
			}
		}
	}
}

// P6.3: gaps and what is covered make the whole

func TestGapsAndCoveredMakeTheWhole(t *testing.T) {
	for _, l := range rightRows() {
		for _, s := range someSpans() {
			if !mayBeAdded(s) || s.From == s.To {
				continue
			}
			gaps := span.Gaps(l, s)
			covered := span.Gaps(gaps, s) // those of s that are in no gap
			if span.Size(gaps)+span.Size(covered) != s.To-s.From {
				t.Fatalf("Gaps(%v, %v) = %v, covered %v", l, s, gaps, covered)
			}
			whole := covered
			for _, g := range gaps {
				if span.Covers(l, g) {
					t.Fatalf("Gaps(%v, %v) has %v, which is had", l, s, g)
				}
				var e api.Errno
				if whole, e = span.Add(whole, g); e != api.OK {
					t.Fatalf("Add of %v to %v = %d", g, whole, e)
				}
			}
			if !slices.Equal(whole, []api.Span{s}) {
				t.Fatalf("Gaps(%v, %v) = %v, covered %v, together %v", l, s, gaps, covered, whole)
			}
			for _, c := range covered {
				if !span.Covers(l, c) {
					t.Fatalf("%v of %v is in no gap, and not had", c, l)
				}
			}
		}
	}
}

// P6.3: the order in which spans are added does not matter, nor how often, nor that in which they are cut

func TestOrderDoesNotMatter(t *testing.T) {
	parts := []api.Span{at(0, 2), at(2, 4), at(6, 7), at(3, 6), at(9, 9), at(10, 12), at(20, api.MaxOffset)}
	want := row(0, 7, 10, 12, 20, api.MaxOffset)
	permute(parts, 0, func(order []api.Span) {
		var l []api.Span
		for _, s := range append(slices.Clone(order), order...) {
			var e api.Errno
			if l, e = span.Add(l, s); e != api.OK || span.Check(l) != api.OK {
				t.Fatalf("Add of %v in the order %v = %v, %d", s, order, l, e)
			}
		}
		if !slices.Equal(l, want) {
			t.Fatalf("added in the order %v: %v", order, l)
		}
		l = row(0, api.MaxOffset)
		for _, s := range order {
			l, _ = span.Cut(l, s)
		}
		if !slices.Equal(l, row(7, 10, 12, 20)) {
			t.Fatalf("cut in the order %v: %v", order, l)
		}
	})
}

// permute hands every order of l to do.
func permute(l []api.Span, n int, do func([]api.Span)) {
	if n == len(l) {
		do(l)
		return
	}
	for i := n; i < len(l); i++ {
		l[n], l[i] = l[i], l[n]
		permute(l, n+1, do)
		l[n], l[i] = l[i], l[n]
	}
}

// The chapter's examples

func TestExamples(t *testing.T) {
	l, e := span.Add(row(0, 2, 6, 7), at(2, 4))
	if e != api.OK || !slices.Equal(l, row(0, 4, 6, 7)) {
		t.Errorf("Add = %v, %d", l, e)
	}
	if got := span.Gaps(l, at(1, 7)); !slices.Equal(got, row(4, 6)) {
		t.Errorf("Gaps = %v", got)
	}
}

// Rules that hold everywhere

// What is handed in stays as it was, what stands behind its end too, and what is answered is memory of its own (R3).
func TestWhatIsHandedInStays(t *testing.T) {
	for _, kept := range append(rightRows(), wrongRows()...) {
		room := append(slices.Clone(kept), row(901, 902, 903, 904, 905, 906)...)
		before := slices.Clone(room)
		l := room[:len(kept)]
		for _, s := range someSpans() {
			added, _ := span.Add(l, s)
			left, _ := span.Cut(l, s)
			gaps := span.Gaps(l, s)
			span.Check(l)
			span.Has(l, s.From)
			span.Covers(l, s)
			span.Size(l)
			span.Find(l, s.From)
			for _, answer := range [][]api.Span{added, left, gaps} {
				for i := range answer {
					answer[i] = at(-7, -7)
				}
				_ = append(answer, at(-8, -8))
			}
			if !slices.Equal(room, before) {
				t.Fatalf("with %v, %v became %v", s, before, room)
			}
		}
	}
}

func TestAnswersStay(t *testing.T) {
	for _, kept := range rightRows() {
		for _, s := range someSpans() {
			l := slices.Clone(kept)
			added, _ := span.Add(l, s)
			left, _ := span.Cut(l, s)
			gaps := span.Gaps(l, s)
			wantAdded, wantLeft, wantGaps := slices.Clone(added), slices.Clone(left), slices.Clone(gaps)
			for i := range l {
				l[i] = at(-7, -7)
			}
			if !slices.Equal(added, wantAdded) || !slices.Equal(left, wantLeft) || !slices.Equal(gaps, wantGaps) {
				t.Fatalf("the answers to %v, %v changed with it", kept, s)
			}
		}
	}
}

// nil and empty lists are the same, and the same call answers the same (R3, R8).
func TestNilAndEmptyAndAgain(t *testing.T) {
	for _, s := range someSpans() {
		for _, pair := range [][2][]api.Span{{nil, {}}, {row(0, 2, 6, 7), row(0, 2, 6, 7)}} {
			a, b := pair[0], pair[1]
			addedA, e := span.Add(a, s)
			addedB, f := span.Add(b, s)
			if e != f || !slices.Equal(addedA, addedB) {
				t.Fatalf("Add(%v, %v) = %v, %d and %v, %d", a, s, addedA, e, addedB, f)
			}
			leftA, e := span.Cut(a, s)
			leftB, f := span.Cut(b, s)
			if e != f || !slices.Equal(leftA, leftB) {
				t.Fatalf("Cut(%v, %v) = %v, %d and %v, %d", a, s, leftA, e, leftB, f)
			}
			if !slices.Equal(span.Gaps(a, s), span.Gaps(b, s)) || span.Covers(a, s) != span.Covers(b, s) {
				t.Fatalf("Gaps or Covers of %v, %v differ", a, s)
			}
			if span.Check(a) != span.Check(b) || span.Size(a) != span.Size(b) || span.Has(a, s.From) != span.Has(b, s.From) {
				t.Fatalf("Check, Size or Has of %v, %v differ", a, s)
			}
		}
	}
}
