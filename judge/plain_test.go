package judge_test

import (
	"math"
	"slices"
	"testing"

	"tideway/api"
	"tideway/judge"
	"tideway/span"
	"tideway/wire"
)

// mayBe tells whether offsets may be added to a row.
func mayBe(x api.Sent) bool { return x.From >= 0 && x.From <= x.To && x.To <= most }

// covered follows P25.1's words, offset by offset, as far as a log goes near some base.
func covered(l []api.Sent, base int) map[int]int {
	has := map[int]int{}
	for _, x := range l {
		if !mayBe(x) {
			continue
		}
		for o := max(x.From, base-100); o < min(x.To, base+100); o++ {
			has[o]++
		}
	}
	return has
}

// wantCover follows P25.1's words.
func wantCover(l []api.Sent, base int) []api.Span {
	has := covered(l, base)
	var row []api.Span
	for o := base - 100; o < base+100; o++ {
		switch n := len(row); {
		case has[o] == 0:
		case n > 0 && row[n-1].To == o:
			row[n-1].To++
		default:
			row = append(row, api.Span{From: o, To: o + 1})
		}
	}
	return row
}

// wantFresh follows P25.1's words.
func wantFresh(l []api.Sent, base int) []int {
	var places []int
	for i, x := range l {
		has := covered(l[:i], base)
		isNew := false
		for o := max(x.From, base-100); o < min(x.To, base+100); o++ {
			isNew = isNew || has[o] == 0
		}
		if isNew {
			places = append(places, i)
		}
	}
	return places
}

// wantOver follows P25.1's words.
func wantOver(l []api.Sent, edges []int, base int) int {
	for _, i := range wantFresh(l, base) {
		if l[i].Why != api.WhyPersist && i < len(edges) && l[i].To > edges[i] {
			return i
		}
	}
	return -1
}

// log answers one of offsets near a base, of which now and then some may not be.
func (d *dice) log(base, wide int) []api.Sent {
	l := make([]api.Sent, d.below(12))
	for i := range l {
		from := base + d.below(wide) - wide/3
		l[i] = api.Sent{From: from, To: from + d.of(0, 1, 1, 2, 3, d.below(8), -1), Why: api.Why(1 + d.below(5))}
		if base == 0 && d.below(4) > 0 {
			l[i].From, l[i].To = max(from, 0), max(l[i].To, 0)
		}
		if base == most && d.below(4) > 0 {
			l[i].From, l[i].To = min(from, most), min(l[i].To, most)
		}
	}
	return l
}

// P25.1: drawn logs.

func TestRowsOfMany(t *testing.T) {
	t.Parallel()
	d := dice{11}
	for range 30000 {
		base := d.of(0, 50, most, 64, 1<<40)
		l := d.log(base, d.of(6, 12, 30))
		if got, want := judge.Cover(l), wantCover(l, base); !alike(got, want) {
			t.Fatalf("Cover of %v: %v, want %v", l, got, want)
		}
		if got, want := judge.Fresh(l), wantFresh(l, base); !alike(got, want) {
			t.Fatalf("Fresh of %v: %v, want %v", l, got, want)
		}
		edges := make([]int, d.below(14))
		for i := range edges {
			edges[i] = base + d.below(20) - 4
			if i < len(l) && d.below(3) > 0 {
				edges[i] = l[i].To + d.of(0, 0, 1, -1)
			}
		}
		if got, want := judge.Over(l, edges), wantOver(l, edges, base); got != want {
			t.Fatalf("Over of %v, %v: %d, want %d", l, edges, got, want)
		}
		for why := range api.Why(7) {
			n := 0
			for _, x := range l {
				if x.Why == why {
					n++
				}
			}
			if judge.Count(l, why) != n {
				t.Fatalf("Count of %v, %d: not %d", l, why, n)
			}
		}
	}
}

// P25.1: rows as layer 6 makes them, one by one, of offsets from anywhere.

func TestRowsAsLayer6MakesThem(t *testing.T) {
	t.Parallel()
	d := dice{12}
	ends := []int{math.MinInt, -1, 0, 1, 2, 5, 100, 1 << 40, most - 1, most, most + 1, math.MaxInt}
	for range 30000 {
		l := make([]api.Sent, d.below(9))
		var row []api.Span
		var places []int
		for i := range l {
			s := api.Span{From: d.of(ends...), To: d.of(ends...)}
			l[i] = at(s.From, s.To)
			if !span.Covers(row, s) {
				places = append(places, i)
			}
			if more, e := span.Add(row, s); e == api.OK {
				row = more
			}
		}
		if got := judge.Cover(l); !alike(got, row) || span.Check(got) != api.OK {
			t.Fatalf("Cover of %v: %v, want %v", l, got, row)
		}
		if got := judge.Fresh(l); !alike(got, places) {
			t.Fatalf("Fresh of %v: %v, want %v", l, got, places)
		}
	}
}

// plainBytes follows P25.3's words, byte by byte.
func plainBytes(l []api.Sent) ([]api.Piece, bool) {
	stands := map[int]byte{}
	var offsets []int
	for _, x := range l {
		s, e := wire.Get(x.Data, 1, 2)
		if e != api.OK || x.From < 0 || x.From > most {
			return nil, false
		}
		for i, b := range s.Data {
			if was, ok := stands[x.From+i]; ok && was != b {
				return nil, false
			} else if !ok {
				offsets = append(offsets, x.From+i)
			}
			stands[x.From+i] = b
		}
	}
	return plainPieces(stands, offsets), true
}

// plainPieces answers bytes as pieces that rise and do not touch.
func plainPieces(stands map[int]byte, offsets []int) []api.Piece {
	slices.Sort(offsets)
	var got []api.Piece
	for i, o := range offsets {
		if i == 0 || offsets[i-1] != o-1 {
			got = append(got, api.Piece{From: o})
		}
		p := &got[len(got)-1]
		p.Data = append(p.Data, stands[o])
	}
	return got
}

// carried answers a log of parts of a text from a base on, of which one may be another's in a few.
func (d *dice) carried(text []byte, base int) []api.Sent {
	l := make([]api.Sent, d.below(10))
	for i := range l {
		from := d.below(len(text))
		n := min(d.of(0, 1, 2, d.below(10), d.below(150)), len(text)-from)
		l[i] = carry(base+from, string(text[from:from+n]))
		switch d.below(60) {
		case 0:
			l[i].From += d.of(-1, 1)
		case 1:
			l[i].Data[d.below(len(l[i].Data))] ^= byte(1 << d.below(8))
		case 2:
			l[i].From = d.of(-1, most+1, most)
		}
	}
	return l
}

// P25.3: drawn logs.

func TestBytesOfMany(t *testing.T) {
	t.Parallel()
	d := dice{13}
	told := 0
	for range 20000 {
		text := d.bytes(1+d.below(300), d.of(1, 2, 256))
		l := d.carried(text, d.of(0, 1, d.below(1000), 1<<40-50, most-len(text), most-1))
		want, ok := plainBytes(l)
		wantBytes(t, l, want, ok)
		if ok {
			told++
		}
	}
	if told < 8000 || told > 18000 {
		t.Errorf("%d of 20000 are told", told)
	}
}
