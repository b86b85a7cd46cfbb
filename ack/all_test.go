package ack_test

import (
	"cmp"
	"math"
	"slices"
	"testing"

	"tideway/ack"
	"tideway/api"
	"tideway/span"
)

// dice throws numbers that look like chance and are the same each time.
type dice struct{ state uint64 }

// below answers a number from 0 on, below n.
func (d *dice) below(n int) int {
	d.state = d.state*6364136223846793005 + 1442695040888963407
	return int(d.state>>33) % n
}

// upTo answers a number of any length, from 0 to most.
func (d *dice) upTo(most int) int {
	return (d.below(1<<31)<<20 + d.below(1<<20)) % (most + 1) >> d.below(50)
}

// number answers any sequence number, many of them about the turn and its middle.
func (d *dice) number() uint32 {
	if d.below(2) == 0 {
		return uint32(d.below(1<<31) * 2)
	}
	return number(firsts()[d.below(len(firsts()))], d.below(200)-100)
}

// one answers one of those numbers, or one close to it.
func (d *dice) one(l ...int) int {
	return l[d.below(len(l))] + []int{0, 0, 0, 1, -1, 2, -2}[d.below(7)]
}

// apart answers how far b is ahead of a, modulo 2^32, from -2^31 on.
func apart(a, b uint32) int {
	n := int(b) - int(a)
	for n >= half {
		n -= turn
	}
	for n < -half {
		n += turn
	}
	return n
}

// nearest answers the number nearest to base that is s modulo 2^32, held at the bounds of an int.
func nearest(base int, s uint32) int {
	n := apart(uint32(base), s)
	switch {
	case n > 0 && base > math.MaxInt-n:
		return math.MaxInt
	case n < 0 && base < math.MinInt-n:
		return math.MinInt
	}
	return base + n
}

// counts follows P22.1's words.
func counts(a api.Asked, s api.Segment) bool {
	has := func(flag int) bool { return s.Flags/flag%2 != 0 }
	switch x := nearest(a.Una, s.Ack-a.Iss); {
	case !has(16) || has(2) || has(4):
		return false
	case a.Stamps && !s.Stamped, a.Stamps && apart(a.Recent, s.Val) < 0:
		return false
	case nearest(a.Peer, s.Seq-a.Irs) != a.Peer:
		return false
	case x > a.Next, x < 0:
		return false
	}
	return !(a.Una < 0 || a.Una > a.Next || a.Next > 1<<50+1)
}

// wantWeigh follows P22.2's words.
func wantWeigh(a api.Asked, s api.Segment) api.Heard {
	if !counts(a, s) {
		return api.Heard{}
	}
	x := nearest(a.Una, s.Ack-a.Iss)
	h := api.Heard{Counts: true, Ack: a.Una, At: a.Peer, Win: s.Win}
	if x > a.Una {
		h.Ack = x
	}
	if x < a.Una {
		h.Old = true
	}
	if a.Stamps {
		h.Recent = s.Val
		if n := apart(s.Ecr, a.Now); x > a.Una && n > 0 {
			h.Rtt = n
		}
	}
	if !a.Sacks {
		return h
	}
	var l []pair
	for _, b := range s.Sacks {
		l = append(l, pair{nearest(a.Una, b.From-a.Iss), nearest(a.Una, b.To-a.Iss)})
	}
	if len(l) >= 1 && l[0][1] <= x && l[0][0] < l[0][1] {
		h.Twice = true
	}
	if len(l) >= 2 && l[0][0] >= l[1][0] && l[0][1] <= l[1][1] {
		h.Twice = true
	}
	var taken []pair
	for i, b := range l {
		if i == 0 && h.Twice {
			continue
		}
		if b[0] >= h.Ack && b[0] < b[1] && b[1] <= a.Next && b[1] <= 1<<50 {
			taken = append(taken, b)
		}
	}
	h.Spans = together(taken)
	return h
}

// together answers the row of all offsets of spans in any order.
func together(l []pair) []api.Span {
	slices.SortFunc(l, func(a, b pair) int { return cmp.Compare(a[0], b[0]) })
	var out []pair
	for _, x := range l {
		if n := len(out); n > 0 && x[0] <= out[n-1][1] {
			out[n-1][1] = max(out[n-1][1], x[1])
		} else {
			out = append(out, x)
		}
	}
	return row(out...)
}

// ask asks what is heard of a segment against the words, and against what follows. It answers it.
func ask(t *testing.T, a api.Asked, s api.Segment) api.Heard {
	t.Helper()
	h := ack.Weigh(a, s)
	if want := wantWeigh(a, s); !same(h, want) {
		t.Fatalf("Weigh(%+v, %+v) =\n%+v, want\n%+v", a, s, h, want)
	}
	if !follows(a, h) {
		t.Fatalf("Weigh(%+v, %+v) =\n%+v, which may not be", a, s, h)
	}
	return h
}

// follows tells whether what P22.3 says holds: what is acknowledged is from Una to Next, and so are the spans, a row.
func follows(a api.Asked, h api.Heard) bool {
	if !h.Counts {
		return same(h, api.Heard{})
	}
	if h.Ack < a.Una || h.Ack > a.Next || h.Old && h.Ack != a.Una {
		return false
	}
	for _, x := range h.Spans {
		if x.From < h.Ack || x.To > a.Next {
			return false
		}
	}
	return span.Check(h.Spans) == api.OK
}

// All small blocks, by two, behind all that is acknowledged, from all that was, to all that was sent.
func TestSmallBlocks(t *testing.T) {
	for _, first := range []uint32{100, turn - 2} {
		for next := range 5 {
			for una := range next + 1 {
				for x := -1; x <= next+1; x++ {
					a := api.Asked{Una: una, Next: next, Iss: first, Sacks: true}
					s := api.Segment{Flags: api.Ack, Ack: number(first, x)}
					smallBlocks(t, a, s)
				}
			}
		}
	}
}

// smallBlocks asks about a segment with all small blocks.
func smallBlocks(t *testing.T, a api.Asked, s api.Segment) {
	t.Helper()
	ask(t, a, s)
	for n := range 7 * 7 {
		one := pair{n%7 - 1, n/7 - 1}
		s.Sacks = blocks(a.Iss, one)
		ask(t, a, s)
		for m := range 7 * 7 {
			s.Sacks = blocks(a.Iss, one, pair{m%7 - 1, m/7 - 1})
			ask(t, a, s)
		}
	}
}

// All small rows of three spans and one that came twice, offset by offset.
func TestSmallRows(t *testing.T) {
	a := api.Asked{Una: 2, Next: 8, Iss: turn - 5, Sacks: true}
	for n := range 8 * 8 * 8 * 8 * 8 * 8 {
		l := []pair{{0, 1}, {n % 8, n >> 3 % 8}, {n >> 6 % 8, n >> 9 % 8}, {n >> 12 % 8, n >> 15}}
		h := ack.Weigh(a, api.Segment{Flags: api.Ack, Ack: number(a.Iss, 3), Sacks: blocks(a.Iss, l...)})
		if !h.Counts || !h.Twice || !follows(a, h) {
			t.Fatalf("%v: %+v", l, h)
		}
		for x := range 9 {
			want := false
			for _, b := range l[1:] {
				want = want || b[0] >= 3 && b[0] <= x && x < b[1]
			}
			if span.Has(h.Spans, x) != want {
				t.Fatalf("%v: %+v at %d", l, h, x)
			}
		}
	}
}

// Una, Next and what is acknowledged at numbers about every limit, also far from one another.
func TestEverywhere(t *testing.T) {
	numbers := []int{
		math.MinInt, math.MinInt + half, -turn - 1, -1, 0, 1, 60, 61, half - 1, half, half + 1, turn - 1, turn, turn + 1,
		1 << 40, last - half, last - 1, last, far, far + 1, 1 << 62, math.MaxInt - half, math.MaxInt,
	}
	for _, una := range numbers {
		for _, next := range numbers {
			for i, x := range numbers {
				for d := -1; d <= 1; d++ {
					a, s := usual(), segment()
					a.Una, a.Next, a.Peer = una, next, numbers[(i+d+len(numbers))%len(numbers)]
					s.Ack, s.Seq = uint32(x+d)+a.Iss, uint32(a.Peer)+a.Irs
					s.Sacks = []api.Block{
						{From: uint32(una) + a.Iss, To: uint32(next+d) + a.Iss},
						{From: uint32(x) + a.Iss, To: uint32(una+x) + a.Iss},
						{From: uint32(x+5) + a.Iss, To: uint32(next) + a.Iss},
					}
					ask(t, a, s)
					s.Seq += uint32(d)
					ask(t, a, s)
				}
			}
		}
	}
}

// asked throws what a sender knows.
func (d *dice) asked() api.Asked {
	a := api.Asked{
		Una: d.upTo(far), Iss: d.number(), Peer: d.upTo(last), Irs: d.number(), Stamps: d.below(2) == 0, Recent: d.number(),
		Now: d.number(), Sacks: d.below(4) != 0,
	}
	a.Next = min(far, a.Una+d.upTo(1<<33))
	if d.below(9) == 0 {
		a.Una, a.Next = far-a.Next+a.Una, far
	}
	return a
}

// segment throws one that may well count.
func (d *dice) segment(a api.Asked) api.Segment {
	x := d.one(a.Una, a.Una, a.Next, (a.Una+a.Next)/2, a.Una+d.upTo(a.Next-a.Una), a.Una-d.upTo(a.Una))
	s := api.Segment{
		Seq: number(a.Irs, a.Peer), Flags: 16, Ack: number(a.Iss, x), Win: d.below(65536), Stamped: true,
		Val: number(a.Recent, d.upTo(half-1)), Ecr: number(a.Now, -d.upTo(half)),
	}
	var ends []int
	for range 2 * d.below(7) {
		ends = append(ends, d.one(a.Una, x, x, a.Next, (a.Una+a.Next)/2, x+(a.Next-x)/3, d.upTo(far), a.Una+half, a.Una-half))
		// Often as an end of another, or close to one.
		if d.below(3) == 0 {
			ends[len(ends)-1] = d.one(ends...)
		}
	}
	for i := 0; i < len(ends); i += 2 {
		b := pair{ends[i], ends[i+1]}
		if d.below(5) != 0 {
			b = pair{min(b[0], b[1]), max(b[0], b[1])}
		}
		s.Sacks = append(s.Sacks, blocks(a.Iss, b)...)
	}
	return s
}

func TestThrown(t *testing.T) {
	d := &dice{22}
	n, twice, spans, old := 0, 0, 0, 0
	for range 300000 {
		a := d.asked()
		s := d.segment(a)
		switch d.below(20) {
		case 0:
			s.Flags = d.below(256)
		case 1:
			s.Stamped = false
		case 2:
			s.Val = number(a.Recent, d.one(0, -5, -half, half-1))
		case 3:
			s.Seq = number(s.Seq, d.one(0))
		case 4:
			s.Ecr = number(a.Now, d.one(0, half, -half))
		case 5:
			s.Ack = number(a.Iss, d.one(0, a.Next+1, a.Una+half, a.Una-half))
		}
		h := ask(t, a, s)
		if h.Counts {
			n++
		}
		if h.Twice {
			twice++
		}
		if len(h.Spans) > 0 {
			spans++
		}
		if h.Old {
			old++
		}
	}
	if n < 100000 || twice < 20000 || spans < 20000 || old < 10000 {
		t.Errorf("%d count, %d of them Twice, %d with spans, %d old", n, twice, spans, old)
	}
}

// Segments and knowledge that are thrown with no care.
func TestThrownAway(t *testing.T) {
	d := &dice{23}
	for range 200000 {
		a := api.Asked{
			Una: d.one(0, last, d.upTo(far), -d.upTo(far)), Next: d.one(0, last, far, d.upTo(1<<60)), Iss: d.number(), Peer: d.one(0, d.upTo(1<<60)),
			Irs: d.number(), Stamps: d.below(2) == 0, Recent: d.number(), Now: d.number(), Sacks: d.below(2) == 0,
		}
		s := api.Segment{
			Seq: d.number(), Ack: d.number(), Flags: d.below(512) | 16, Win: d.one(0), Stamped: d.below(2) == 0, Val: d.number(), Ecr: d.number(),
		}
		if d.below(4) != 0 {
			s.Seq, s.Flags = uint32(a.Peer)+a.Irs, 16
		}
		for range d.below(5) {
			s.Sacks = append(s.Sacks, api.Block{From: d.number(), To: d.number()})
		}
		ask(t, a, s)
	}
}

// P22.3: only differences of numbers count, so that all of a kind may be moved alike.
func TestDifferences(t *testing.T) {
	d := &dice{24}
	for range 50000 {
		a := d.asked()
		s := d.segment(a)
		want := ask(t, a, s)
		k := d.number()
		a.Iss, s.Ack, s.Sacks = a.Iss+k, s.Ack+k, slices.Clone(s.Sacks)
		for i := range s.Sacks {
			s.Sacks[i] = api.Block{From: s.Sacks[i].From + k, To: s.Sacks[i].To + k}
		}
		is(t, "Iss", a, s, want)
		k = d.number()
		a.Irs, s.Seq = a.Irs+k, s.Seq+k
		is(t, "Irs", a, s, want)
		k = d.number()
		a.Now, s.Ecr = a.Now+k, s.Ecr+k
		is(t, "Now", a, s, want)
		k = d.number()
		a.Recent, s.Val = a.Recent+k, s.Val+k
		if want.Counts && a.Stamps {
			want.Recent += k
		}
		is(t, "Recent", a, s, want)
		// Offsets are moved where none of them goes beyond its bounds by it.
		if n := d.upTo(1 << 40); a.Una > turn && a.Next+n <= last {
			a.Una, a.Next, a.Iss = a.Una+n, a.Next+n, a.Iss-uint32(n)
			if want.Counts {
				want.Ack += n
			}
			want.Spans = slices.Clone(want.Spans)
			for i, x := range want.Spans {
				want.Spans[i] = api.Span{From: x.From + n, To: x.To + n}
			}
			is(t, "offsets", a, s, want)
		}
	}
}

// What is not named counts for nothing.
func TestNothingElse(t *testing.T) {
	d := &dice{25}
	for range 20000 {
		a := d.asked()
		s := d.segment(a)
		want := ask(t, a, s)
		s.SrcPort, s.DstPort, s.Urg, s.Mss, s.Scale = d.below(65536), d.below(65536), d.below(65536), d.below(65536)-1, d.below(15)-1
		s.SackOk, s.Data = d.below(2) == 0, make([]byte, d.below(9))
		s.Flags |= d.below(32) * api.Psh &^ api.Ack
		s.Flags |= d.below(2) * api.Fin
		is(t, "what is not named", a, s, want)
		if !a.Stamps {
			s.Stamped, s.Val, s.Ecr, a.Recent, a.Now = d.below(2) == 0, d.number(), d.number(), d.number(), d.number()
			is(t, "stamps without Stamps", a, s, want)
		}
		if !a.Sacks {
			s.Sacks = nil
			is(t, "blocks without Sacks", a, s, want)
		}
	}
}

// R1: a great many blocks.
func TestManyBlocks(t *testing.T) {
	a := api.Asked{Next: 1 << 20, Iss: turn - 9, Sacks: true}
	var l []pair
	for i := range 3000 {
		x := i * 1237 % 3000
		l = append(l, pair{2*x + 1, 2*x + 2})
	}
	s := api.Segment{Flags: api.Ack, Ack: a.Iss, Sacks: blocks(a.Iss, l...)}
	if h := ask(t, a, s); len(h.Spans) != 3000 {
		t.Errorf("%d spans", len(h.Spans))
	}
	l = append(l, pair{1, 6001})
	s.Sacks = blocks(a.Iss, l...)
	is(t, "all filled", a, s, api.Heard{Counts: true, Spans: row(pair{1, 6001})})
}
