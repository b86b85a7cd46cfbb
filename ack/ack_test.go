package ack_test

import (
	"math"
	"slices"
	"testing"

	"tideway/ack"
	"tideway/api"
)

const (
	last = api.MaxOffset
	far  = last + 1 // of the end, behind the last offset
	half = 1 << 31
	turn = 1 << 32

	iss = turn - 75 // offset 75 is number 0
	irs = turn - 25 // of the peer's offset 25 is number 0
)

// pair is a span, or a block, by offsets.
type pair [2]int

// row answers spans.
func row(l ...pair) []api.Span {
	var spans []api.Span
	for _, x := range l {
		spans = append(spans, api.Span{From: x[0], To: x[1]})
	}
	return spans
}

// blocks answers blocks, with the number of offset 0.
func blocks(first uint32, l ...pair) []api.Block {
	var b []api.Block
	for _, x := range l {
		b = append(b, api.Block{From: number(first, x[0]), To: number(first, x[1])})
	}
	return b
}

// usual is a sender that has 60 acknowledged and has sent up to 100: in between its numbers turn.
func usual() api.Asked {
	return api.Asked{Una: 60, Next: 100, Iss: iss, Peer: 30, Irs: irs, Stamps: true, Recent: turn - 6, Now: 50, Sacks: true}
}

// segment is one that acknowledges up to 80, and has those blocks.
func segment(l ...pair) api.Segment {
	return api.Segment{
		Seq: 5, Flags: api.Ack, Ack: at(80), Win: 7, Mss: -1, Scale: -1, Stamped: true, Val: 3, Ecr: turn - 10, Sacks: blocks(iss, l...),
	}
}

// heard is what the usual sender hears of it.
func heard(twice bool, l ...pair) api.Heard {
	return api.Heard{Counts: true, Ack: 80, At: 30, Win: 7, Recent: 3, Rtt: 60, Twice: twice, Spans: row(l...)}
}

// at is the usual sender's number of an offset.
func at(x int) uint32 { return number(iss, x) }

// number is the number of an offset, with the first one.
func number(first uint32, x int) uint32 { return uint32((int(first) + x%turn + turn) % turn) }

// same tells whether two are alike, no spans and nil being the same.
func same(a, b api.Heard) bool {
	return a.Counts == b.Counts && a.Ack == b.Ack && a.Old == b.Old && a.At == b.At && a.Win == b.Win &&
		a.Recent == b.Recent && a.Rtt == b.Rtt && a.Twice == b.Twice && slices.Equal(a.Spans, b.Spans)
}

// is asks what is heard of a segment.
func is(t *testing.T, name string, a api.Asked, s api.Segment, want api.Heard) {
	t.Helper()
	if h := ack.Weigh(a, s); !same(h, want) {
		t.Errorf("%s: Weigh(%+v, %+v) =\n%+v, want\n%+v", name, a, s, h, want)
	}
}

// either asks that a segment is heard as wanted where it counts, and that else it is as none.
func either(t *testing.T, name string, a api.Asked, s api.Segment, counts bool, want api.Heard) {
	t.Helper()
	if !counts {
		want = api.Heard{}
	}
	is(t, name, a, s, want)
}

// The chapter's example.
func TestExample(t *testing.T) {
	a := api.Asked{Una: 5, Next: 10, Iss: 100}
	is(t, "107", a, api.Segment{Flags: api.Ack, Ack: 107}, api.Heard{Counts: true, Ack: 7})
	is(t, "111", a, api.Segment{Flags: api.Ack, Ack: 111}, api.Heard{})
	a.Sacks = true
	s := api.Segment{Flags: api.Ack, Ack: 107, Sacks: []api.Block{{From: 108, To: 110}}}
	is(t, "a block", a, s, api.Heard{Counts: true, Ack: 7, Spans: row(pair{8, 10})})
}

func TestUsual(t *testing.T) {
	is(t, "usual", usual(), segment(), heard(false))
	is(t, "a block", usual(), segment(pair{90, 95}), heard(false, pair{90, 95}))
	is(t, "a block that came twice", usual(), segment(pair{70, 75}), heard(true))
	// What a sender knows at first: nothing was sent, nothing came.
	is(t, "zero", api.Asked{}, api.Segment{Flags: api.Ack}, api.Heard{Counts: true})
	is(t, "zero, and no flag", api.Asked{}, api.Segment{}, api.Heard{})
}

// P22.1: flags

// All combinations of flags, and of bits that are none.
func TestFlags(t *testing.T) {
	for flags := -600; flags < 1100; flags++ {
		s := segment(pair{90, 95})
		s.Flags = flags
		counts := flags&16 == 16 && flags&2 == 0 && flags&4 == 0
		either(t, "flags", usual(), s, counts, heard(false, pair{90, 95}))
	}
	for _, c := range []struct {
		flags  int
		counts bool
	}{
		{0, false},
		{api.Ack, true},
		{api.Fin, false},
		{api.Syn, false},
		{api.Rst, false},
		{api.Psh | api.Urg, false},
		{api.Ack | api.Fin, true},
		{api.Ack | api.Syn, false},
		{api.Ack | api.Rst, false},
		{api.Ack | api.Syn | api.Rst, false},
		{api.Ack | api.Psh, true},
		{api.Ack | api.Urg, true},
		{api.Ack | api.Ece, true},
		{api.Ack | api.Cwr, true},
		{api.Ack | api.Fin | api.Psh | api.Urg | api.Ece | api.Cwr, true},
		{api.Ack | api.Fin | api.Psh | api.Urg | api.Ece | api.Cwr | api.Syn, false},
		{api.Ack | api.Fin | api.Psh | api.Urg | api.Ece | api.Cwr | api.Rst, false},
		{255, false},
		{255 - api.Ack, false},
		{math.MinInt, false},
		{math.MinInt | api.Ack, true},
		{math.MaxInt, false},
		{math.MaxInt - api.Syn - api.Rst, true},
	} {
		s := segment()
		s.Flags = c.flags
		either(t, "flags by hand", usual(), s, c.counts, heard(false))
	}
}

// P22.1: stamps

func TestStamped(t *testing.T) {
	for _, stamps := range []bool{false, true} {
		for _, stamped := range []bool{false, true} {
			a, s := usual(), segment(pair{90, 95})
			a.Stamps, s.Stamped = stamps, stamped
			want := heard(false, pair{90, 95})
			if !stamps {
				want.Recent, want.Rtt = 0, 0
			}
			either(t, "stamped", a, s, stamped || !stamps, want)
		}
	}
}

// firsts are numbers on all sides of the turn and of its middle.
func firsts() []uint32 {
	return []uint32{0, 1, 2, 100, half - 1, half, half + 1, turn - 100, turn - 2, turn - 1}
}

// ahead are differences of numbers, from -2^31 to 2^31 - 1.
func ahead() []int {
	return []int{-half, -half + 1, -100000, -100, -2, -1, 0, 1, 2, 100, 100000, half - 2, half - 1}
}

func TestVal(t *testing.T) {
	for _, recent := range firsts() {
		for _, d := range ahead() {
			a, s := usual(), segment(pair{90, 95})
			a.Recent, s.Val = recent, number(recent, d)
			want := heard(false, pair{90, 95})
			want.Recent = s.Val
			either(t, "Val", a, s, d >= 0, want)
			a.Stamps = false
			want.Recent, want.Rtt = 0, 0
			is(t, "Val without Stamps", a, s, want)
			s.Stamped = false
			is(t, "Val, not Stamped, without Stamps", a, s, want)
		}
	}
}

func TestValByHand(t *testing.T) {
	for _, c := range []struct {
		recent, val uint32
		counts      bool
	}{
		{5, 4, false},
		{5, 5, true},
		{5, 6, true},
		{0, 4294967295, false},
		{4294967295, 0, true},
		{4294967295, 4294967294, false},
		{4294967295, 4294967295, true},
		{0, 2147483647, true},
		{0, 2147483648, false},
		{0, 2147483649, false},
		{2147483648, 0, false},
		{2147483647, 0, false},
		{2147483649, 0, true},
		{4294967290, 2147483641, true},
		{4294967290, 2147483642, false},
	} {
		a, s := usual(), segment()
		a.Recent, s.Val = c.recent, c.val
		want := heard(false)
		want.Recent = c.val
		either(t, "Val by hand", a, s, c.counts, want)
	}
}

// P22.1: the segment's own offset

func TestOwnOffset(t *testing.T) {
	for _, peer := range []int{-turn, -1, 0, 1, 30, half - 1, half, half + 1, turn - 1, turn, turn + 7, 1<<40 + 5, last, far, 1 << 60} {
		for _, first := range firsts() {
			for _, d := range ahead() {
				a, s := usual(), segment(pair{90, 95})
				a.Peer, a.Irs, s.Seq = peer, first, number(first, peer+d)
				want := heard(false, pair{90, 95})
				want.At = peer
				either(t, "own offset", a, s, d == 0, want)
			}
		}
	}
}

func TestOwnOffsetByHand(t *testing.T) {
	for _, c := range []struct {
		peer     int
		irs, seq uint32
		counts   bool
	}{
		{30, 4294967271, 4, false},
		{30, 4294967271, 5, true},
		{30, 4294967271, 6, false},
		{0, 0, 0, true},
		{0, 0, 1, false},
		{0, 0, 4294967295, false},
		{0, 4294967295, 4294967295, true},
		{1, 4294967295, 0, true},
		{1, 4294967295, 1, false},
		{1, 4294967295, 4294967295, false},
		{4294967296, 7, 7, true},
		{4294967300, 7, 11, true},
		{4294967300, 7, 10, false},
		{1125899906842624, 3, 3, true},
		{1125899906842624, 3, 4, false},
	} {
		a, s := usual(), segment()
		a.Peer, a.Irs, s.Seq = c.peer, c.irs, c.seq
		want := heard(false)
		want.At = c.peer
		either(t, "own offset by hand", a, s, c.counts, want)
	}
}

// At the bounds of an int, where its offset is held.
func TestOwnOffsetFarOut(t *testing.T) {
	for _, peer := range []int{math.MinInt, math.MaxInt} {
		for _, d := range ahead() {
			a, s := usual(), segment()
			a.Peer, a.Irs, s.Seq = peer, 9, uint32(peer)+uint32(d)+9
			want := heard(false)
			want.At = peer
			either(t, "far out", a, s, d == 0 || (d > 0) == (peer > 0), want)
		}
	}
}

// P22.1: what it acknowledges

func TestAcknowledges(t *testing.T) {
	for _, c := range []struct {
		una, next, x int
		counts       bool
		ack          int
		old          bool
	}{
		{0, 0, -1, false, 0, false},
		{0, 0, 0, true, 0, false},
		{0, 0, 1, false, 0, false},
		{0, 1, -1, false, 0, false},
		{0, 1, 0, true, 0, false},
		{0, 1, 1, true, 1, false},
		{0, 1, 2, false, 0, false},
		{1, 1, -1, false, 0, false},
		{1, 1, 0, true, 1, true},
		{1, 1, 1, true, 1, false},
		{1, 1, 2, false, 0, false},
		{60, 100, -100, false, 0, false},
		{60, 100, -1, false, 0, false},
		{60, 100, 0, true, 60, true},
		{60, 100, 1, true, 60, true},
		{60, 100, 59, true, 60, true},
		{60, 100, 60, true, 60, false},
		{60, 100, 61, true, 61, false},
		{60, 100, 74, true, 74, false},
		{60, 100, 75, true, 75, false},
		{60, 100, 76, true, 76, false},
		{60, 100, 99, true, 99, false},
		{60, 100, 100, true, 100, false},
		{60, 100, 101, false, 0, false},
		{60, 100, 200, false, 0, false},
		{60, 60, 59, true, 60, true},
		{60, 60, 60, true, 60, false},
		{60, 60, 61, false, 0, false},
		{5, 1 << 40, 4 + half, true, 4 + half, false},
		{5, 1 << 40, 5 + half, false, 0, false}, // nearer, or as near: 5 less 2^31
		{half - 1, 1 << 40, 2*half - 1, false, 0, false},
		{half, 1 << 40, 2 * half, true, half, true}, // the offset 0
		{half, 1 << 40, 2*half - 1, true, turn - 1, false},
		{1 << 40, 1 << 41, 1<<40 - half, true, 1 << 40, true},
		{1 << 40, 1 << 41, 1<<40 + half, true, 1 << 40, true},
		{1 << 40, 1 << 41, 1<<40 + half - 1, true, 1<<40 + half - 1, false},
		{1 << 40, 1<<40 + 9, 1<<40 + half - 1, false, 0, false},
		{last, last, last, true, last, false},
		{last, last, last + 1, false, 0, false},
		{last, far, last - 1, true, last, true},
		{last, far, last, true, last, false},
		{last, far, far, true, far, false},
		{last, far, far + 1, false, 0, false},
		{far, far, last, true, far, true},
		{far, far, far, true, far, false},
		{far, far, far + 1, false, 0, false},
	} {
		for _, first := range append(firsts(), iss) {
			a, s := usual(), segment()
			a.Una, a.Next, a.Iss, s.Ack = c.una, c.next, first, number(first, c.x)
			want := api.Heard{Counts: true, Ack: c.ack, Old: c.old, At: 30, Win: 7, Recent: 3}
			if c.ack > c.una {
				want.Rtt = 60
			}
			either(t, "acknowledges", a, s, c.counts, want)
			a.Stamps, a.Sacks = false, false
			want.Recent, want.Rtt = 0, 0
			either(t, "acknowledges, and nothing else", a, s, c.counts, want)
		}
	}
}

func TestAcknowledgesByHand(t *testing.T) {
	for _, c := range []struct {
		una, next int
		iss, ack  uint32
		counts    bool
		want      int
	}{
		{5, 10, 100, 99, false, 0},
		{5, 10, 100, 100, true, 5},
		{5, 10, 100, 104, true, 5},
		{5, 10, 100, 105, true, 5},
		{5, 10, 100, 106, true, 6},
		{5, 10, 100, 110, true, 10},
		{5, 10, 100, 111, false, 0},
		{5, 10, 4294967290, 4294967289, false, 0},
		{5, 10, 4294967290, 4294967290, true, 5},
		{5, 10, 4294967290, 4294967295, true, 5},
		{5, 10, 4294967290, 0, true, 6},
		{5, 10, 4294967290, 4, true, 10},
		{5, 10, 4294967290, 5, false, 0},
		{4294967290, 4294967300, 0, 4294967289, true, 4294967290},
		{4294967290, 4294967300, 0, 4294967291, true, 4294967291},
		{4294967290, 4294967300, 0, 3, true, 4294967299},
		{4294967290, 4294967300, 0, 4, true, 4294967300},
		{4294967290, 4294967300, 0, 5, false, 0},
	} {
		a := api.Asked{Una: c.una, Next: c.next, Iss: c.iss}
		h := ack.Weigh(a, api.Segment{Flags: api.Ack, Ack: c.ack})
		if h.Counts != c.counts || h.Ack != c.want {
			t.Errorf("%+v, Ack %d: %+v, want %d", a, c.ack, h, c.want)
		}
	}
}

// Una and Next about their bounds. All that is asked acknowledges up to Next, which is near enough to count.
func TestUnaAndNext(t *testing.T) {
	numbers := []int{
		math.MinInt, math.MinInt + 1, -turn, -half, -2, -1, 0, 1, 2, 59, 60, 61, half - 1, half, turn,
		last - 1, last, last + 1, last + 2, last + 3, 1 << 60, math.MaxInt - 1, math.MaxInt,
	}
	for _, una := range numbers {
		for _, next := range numbers {
			if d := float64(next) - float64(una); d >= half {
				continue
			}
			a, s := usual(), segment()
			a.Una, a.Next, s.Ack = una, next, uint32(next)+a.Iss
			want := api.Heard{Counts: true, Ack: next, At: 30, Win: 7, Recent: 3}
			if next > una {
				want.Rtt = 60
			}
			either(t, "Una and Next", a, s, una >= 0 && una <= next && next <= 1<<50+1, want)
			a, s = api.Asked{Una: una, Next: next}, api.Segment{Flags: api.Ack, Ack: uint32(next)}
			want = api.Heard{Counts: true, Ack: next}
			either(t, "Una and Next alone", a, s, una >= 0 && una <= next && next <= 1125899906842625, want)
		}
	}
}

// Una that is above Next does not count either where what is acknowledged is not above Next.
func TestUnaAboveNext(t *testing.T) {
	for x := -3; x <= 12; x++ {
		a := api.Asked{Una: 8, Next: 7, Iss: 100}
		is(t, "Una above Next", a, api.Segment{Flags: api.Ack, Ack: number(100, x)}, api.Heard{})
		a = api.Asked{Una: -1, Next: 7, Iss: 100}
		is(t, "Una below 0", a, api.Segment{Flags: api.Ack, Ack: number(100, x)}, api.Heard{})
		a = api.Asked{Una: last, Next: last + 2, Iss: 100}
		is(t, "Next beyond the end", a, api.Segment{Flags: api.Ack, Ack: number(100, last+x)}, api.Heard{})
		a = api.Asked{Una: -1, Next: -1, Iss: 100}
		is(t, "both below 0", a, api.Segment{Flags: api.Ack, Ack: number(100, x)}, api.Heard{})
	}
}

// P22.1: each of what does not count by itself, and any two of it.
func TestDoesNotCount(t *testing.T) {
	wrongs := []struct {
		name string
		do   func(a *api.Asked, s *api.Segment)
	}{
		{"nothing", func(a *api.Asked, s *api.Segment) {}},
		{"no Ack", func(a *api.Asked, s *api.Segment) { s.Flags &^= api.Ack }},
		{"Syn", func(a *api.Asked, s *api.Segment) { s.Flags |= api.Syn }},
		{"Rst", func(a *api.Asked, s *api.Segment) { s.Flags |= api.Rst }},
		{"not Stamped", func(a *api.Asked, s *api.Segment) { s.Stamped = false }},
		{"Val behind Recent", func(a *api.Asked, s *api.Segment) { s.Val = a.Recent - 1 }},
		{"Seq one below", func(a *api.Asked, s *api.Segment) { s.Seq = 4 }},
		{"Seq one above", func(a *api.Asked, s *api.Segment) { s.Seq = 6 }},
		{"Peer", func(a *api.Asked, s *api.Segment) { a.Peer += 10 }},
		{"Irs", func(a *api.Asked, s *api.Segment) { a.Irs += 100 }},
		{"below 0", func(a *api.Asked, s *api.Segment) { s.Ack = at(-1) }},
		{"above Next", func(a *api.Asked, s *api.Segment) { s.Ack = at(101) }},
		{"Una below 0", func(a *api.Asked, s *api.Segment) { a.Una = -1 }},
		{"Una above Next", func(a *api.Asked, s *api.Segment) { a.Una = a.Next + 1 }},
		{"Next beyond the end", func(a *api.Asked, s *api.Segment) { a.Next = far + 1 }},
	}
	for i, x := range wrongs {
		for j, y := range wrongs {
			a, s := usual(), segment(pair{70, 75}, pair{90, 95})
			x.do(&a, &s)
			y.do(&a, &s)
			either(t, x.name+", "+y.name, a, s, i == 0 && j == 0, heard(true, pair{90, 95}))
		}
	}
}
