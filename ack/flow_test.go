package ack_test

import (
	"slices"
	"testing"

	"tideway/ack"
	"tideway/api"
	"tideway/recv"
)

// P22.3, with a receiver (layer 8): what it answers counts, and acknowledges what it waits for.

// reply is a segment that a receiver answered, and what it had then.
type reply struct {
	s     api.Segment
	next  int // what it waited for, the end counted
	late  []api.Span
	told  []api.Span // those of late's spans that came last
	twice bool       // it was answered to what had come
}

// path is a sender that knows no more than what Weigh is asked, its receiver, and what is on its way.
type path struct {
	a     api.Asked
	r     api.Recv
	end   int // of what is written
	now   int
	start int // of its clock
	forth []api.Segment
	back  []reply
}

// newPath answers one with that room for each of its numbers.
func newPath(t *testing.T, d *dice, size int, stamps, sacks bool) *path {
	t.Helper()
	p := &path{end: 1 + d.below(3000), start: int(d.number())}
	p.a = api.Asked{Iss: d.number(), Irs: d.number(), Stamps: stamps, Sacks: sacks}
	r, e := recv.New(size, 0, p.a.Iss, p.a.Irs, stamps, sacks)
	if e != api.OK {
		t.Fatal(e)
	}
	p.r = r
	return p
}

// send has the sender send offsets from one on up to another one, the end with those that reach it.
func (p *path) send(from, to int) {
	p.now++
	s := api.Segment{Seq: number(p.a.Iss, from), Ack: number(p.a.Irs, p.a.Peer), Flags: api.Ack, Stamped: p.a.Stamps, Data: make([]byte, to-from)}
	if p.a.Stamps {
		s.Val, s.Ecr = number(uint32(p.start), p.now), p.a.Recent
	}
	if to == p.end {
		s.Flags |= api.Fin
		to++
	}
	p.a.Next = max(p.a.Next, to)
	p.forth = append(p.forth, s)
}

// sendSome has it send new data as far as there is room, or something again.
func (p *path) sendSome(d *dice) {
	from := min(p.a.Next, p.end)
	to := min(from+1+d.below(40), p.end, p.r.Edge)
	if d.below(3) == 0 || to <= from {
		from = d.below(from + 1)
		to = min(from+1+d.below(40), p.a.Next, p.end)
	}
	p.send(from, to)
}

// bytesOf counts what a receiver has.
func bytesOf(r api.Recv) int {
	n := r.Next
	for _, p := range r.Late {
		n += len(p.Data)
	}
	return n
}

// come has a segment come to the receiver, and what it answers go.
func (p *path) come(t *testing.T, s api.Segment) {
	t.Helper()
	r, answer, ok, e := recv.Input(p.r, s)
	if !ok || e != api.OK {
		t.Fatalf("Input: %v, %d", ok, e)
	}
	stale := p.r.Stamps && p.r.Stamp && apart(p.r.Recent, s.Val) < 0
	twice := len(s.Data) > 0 && bytesOf(r) == bytesOf(p.r) && !stale
	p.r = r
	p.answer(answer, twice)
}

// answer has a segment of the receiver's go.
func (p *path) answer(s api.Segment, twice bool) {
	x := reply{s: s, next: p.r.Next, told: slices.Clone(p.r.First), twice: twice}
	if p.r.Done {
		x.next++
	}
	for _, l := range p.r.Late {
		x.late = append(x.late, api.Span{From: l.From, To: l.From + len(l.Data)})
	}
	p.back = append(p.back, x)
}

// read has the receiver's bytes read.
func (p *path) read(t *testing.T, n int) {
	t.Helper()
	r, _, answer, ok, e := recv.Read(p.r, n)
	if e != api.OK {
		t.Fatal(e)
	}
	p.r = r
	if ok {
		p.answer(answer, false)
	}
}

// wantSpans answers which of those spans a reply told that are not acknowledged.
func wantSpans(p *path, x reply) []api.Span {
	most := len(x.s.Sacks)
	if x.twice {
		most--
	}
	var l []pair
	for _, b := range x.told[:most] {
		if b.From >= max(p.a.Una, x.next) {
			l = append(l, pair{b.From, b.To})
		}
	}
	return together(l)
}

// hear has the sender hear a reply.
func (p *path) hear(t *testing.T, x reply) api.Heard {
	t.Helper()
	p.now++
	p.a.Now = number(uint32(p.start), p.now)
	h := ack.Weigh(p.a, x.s)
	want := api.Heard{Counts: true, Ack: max(x.next, p.a.Una), Old: x.next < p.a.Una, At: p.a.Peer, Win: x.s.Win, Rtt: h.Rtt}
	if p.a.Sacks {
		want.Twice, want.Spans = x.twice, wantSpans(p, x)
	}
	// Some time passed since a segment was sent, and no more than since the first one was.
	timed := p.a.Stamps && x.next > p.a.Una
	if !same(h, want) || (h.Rtt != 0) != timed || h.Rtt < 0 || h.Rtt >= p.now || !follows(p.a, h) {
		t.Fatalf("%+v hears %+v:\n%+v, want\n%+v", p.a, x, h, want)
	}
	for _, b := range h.Spans {
		if !slices.ContainsFunc(x.late, func(l api.Span) bool { return l.From <= b.From && b.To <= l.To }) {
			t.Fatalf("%+v hears %+v: %+v, which the receiver has not", p.a, x, h)
		}
	}
	p.a.Una = h.Ack
	return h
}

// taken answers one of a list, what is left of it, and whether it comes: where it is wild not by turns, and it may be lost,
// or stay, to come once more.
func taken[T any](d *dice, l []T, wild bool) (T, []T, bool) {
	i := 0
	if wild {
		i = d.below(len(l))
	}
	x := l[i]
	if wild && d.below(8) == 0 {
		return x, l, true
	}
	return x, slices.Concat(l[:i], l[i+1:]), !wild || d.below(6) != 0
}

// step has one thing happen.
func (p *path) step(t *testing.T, d *dice, wild bool) (api.Heard, bool) {
	t.Helper()
	switch n := d.below(10); {
	case n < 4:
		p.sendSome(d)
	case n < 7 && len(p.forth) > 0:
		s, left, comes := taken(d, p.forth, wild)
		p.forth = left
		if comes {
			p.come(t, s)
		}
	case n == 7:
		p.read(t, d.below(90))
	case len(p.back) > 0:
		x, left, comes := taken(d, p.back, wild)
		p.back = left
		if comes {
			return p.hear(t, x), true
		}
	}
	return api.Heard{}, false
}

// finish has all that was sent, and the rest, come in order, and the sender hear of it.
func (p *path) finish(t *testing.T) {
	t.Helper()
	// Each time around at least one number more is acknowledged.
	for range p.end + 1 {
		if p.a.Una > p.end {
			break
		}
		p.read(t, p.r.Cap)
		p.send(p.a.Una, max(p.a.Una, min(p.a.Una+50, p.end, p.r.Edge)))
		for _, s := range p.forth {
			p.come(t, s)
		}
		for _, x := range p.back {
			p.hear(t, x)
		}
		p.forth, p.back = nil, nil
	}
	if !p.r.Done || p.a.Una != p.end+1 || p.a.Next != p.end+1 {
		t.Fatalf("%+v, %d: not all was heard of", p.a, p.end)
	}
}

func TestReceiver(t *testing.T) {
	d := &dice{26}
	heard, old, twice, spans := 0, 0, 0, 0
	for i := range 800 {
		p := newPath(t, d, 1+d.upTo(5000), i%2 == 0, i%8 < 6)
		for range 250 {
			h, ok := p.step(t, d, i%5 != 0)
			if ok {
				heard++
			}
			if h.Old {
				old++
			}
			if h.Twice {
				twice++
			}
			if len(h.Spans) > 1 {
				spans++
			}
		}
		p.finish(t)
	}
	if heard < 20000 || old < 2000 || twice < 2000 || spans < 1000 {
		t.Errorf("%d heard, %d old, %d Twice, %d with several spans", heard, old, twice, spans)
	}
}

// A row by hand: what comes late, twice, and at last.
func TestReceiverByHand(t *testing.T) {
	p := &path{end: 10, start: turn - 4, a: api.Asked{Iss: turn - 5, Irs: 9, Stamps: true, Sacks: true}}
	p.r, _ = recv.New(100, 0, turn-5, 9, true, true)
	for i := range 5 {
		p.send(2*i, 2*i+2)
	}
	for i, c := range []struct {
		segment int
		want    api.Heard
	}{
		{0, api.Heard{Counts: true, Ack: 2, Win: 98, Rtt: 5}},
		{2, api.Heard{Counts: true, Ack: 2, Win: 98, Spans: row(pair{4, 6})}},
		{4, api.Heard{Counts: true, Ack: 2, Win: 98, Spans: row(pair{4, 6}, pair{8, 10})}},
		{2, api.Heard{Counts: true, Ack: 2, Win: 98, Twice: true, Spans: row(pair{4, 6}, pair{8, 10})}},
		{1, api.Heard{Counts: true, Ack: 6, Win: 94, Rtt: 8, Spans: row(pair{8, 10})}},
		{1, api.Heard{Counts: true, Ack: 6, Win: 94, Twice: true, Spans: row(pair{8, 10})}},
		{3, api.Heard{Counts: true, Ack: 11, Win: 90, Rtt: 8}},
		{4, api.Heard{Counts: true, Ack: 11, Win: 90, Twice: true}},
		{0, api.Heard{Counts: true, Ack: 11, Win: 90}}, // its stamp is older than that of one that came
	} {
		p.come(t, p.forth[c.segment])
		h := p.hear(t, p.back[i])
		if !same(h, c.want) {
			t.Errorf("%d: %+v, want %+v", i, h, c.want)
		}
	}
	// The first replies come once more.
	for i, c := range []api.Heard{
		{Counts: true, Ack: 11, Old: true, Win: 98},
		{Counts: true, Ack: 11, Old: true, Win: 98},
		{Counts: true, Ack: 11, Old: true, Win: 98},
		{Counts: true, Ack: 11, Old: true, Win: 98, Twice: true},
	} {
		if h := p.hear(t, p.back[i]); !same(h, c) {
			t.Errorf("%d once more: %+v, want %+v", i, h, c)
		}
	}
}
