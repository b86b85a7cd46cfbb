package sender_test

import (
	"bytes"
	"reflect"
	"slices"
	"testing"

	"tideway/api"
	"tideway/recv"
	"tideway/sender"
	"tideway/timer"
	"tideway/wire"
)

// dice throws numbers that look like chance and are the same each time.
type dice struct{ state uint64 }

// below answers a number from 0 on, below n.
func (d *dice) below(n int) int {
	d.state = d.state*6364136223846793005 + 1442695040888963407
	return int(d.state>>33) % n
}

// yes tells whether one throw in n came out well.
func (d *dice) yes(n int) bool { return d.below(n) == 0 }

// of answers one of some numbers.
func (d *dice) of(l ...int) int { return l[d.below(len(l))] }

// bytes answers n bytes.
func (d *dice) bytes(n int) []byte {
	b := make([]byte, n)
	for i := range b {
		b[i] = byte(d.below(256))
	}
	return b
}

// roomy answers a copy of a list that has room behind its end.
func roomy[T any](l []T) []T { return append(make([]T, 0, len(l)+3), l...) }

// copied answers a sender in memory of its own, all lists with room behind their ends, and none nil.
func copied(t api.Tcp) api.Tcp {
	t.Ring.Data = roomy(t.Ring.Data)
	t.Recs = roomy(t.Recs)
	t.Low = roomy(t.Low)
	t.Cc.Bw = roomy(t.Cc.Bw)
	t.Timers = roomy(t.Timers)
	return t
}

// copiedOut answers what came of a step in memory of its own.
func copiedOut(o api.Out) api.Out {
	o.Sent = roomy(o.Sent)
	for i := range o.Sent {
		o.Sent[i].Data = roomy(o.Sent[i].Data)
	}
	return o
}

// same tells whether two senders are the same: nil and empty lists are.
func same(a, b api.Tcp) bool {
	lists := bytes.Equal(a.Ring.Data, b.Ring.Data) && slices.Equal(a.Recs, b.Recs) && slices.Equal(a.Low, b.Low) &&
		slices.Equal(a.Cc.Bw, b.Cc.Bw) && slices.Equal(a.Timers, b.Timers)
	return lists && reflect.DeepEqual(bare(a), bare(b))
}

// bare answers a sender without its lists.
func bare(t api.Tcp) api.Tcp {
	t.Ring.Data, t.Recs, t.Low, t.Cc.Bw, t.Timers = nil, nil, nil, nil, nil
	return t
}

// sameOut tells whether the same came of two steps.
func sameOut(a, b api.Out) bool {
	alike := func(x, y api.Sent) bool {
		isSame := bytes.Equal(x.Data, y.Data)
		x.Data, y.Data = nil, nil
		return isSame && reflect.DeepEqual(x, y)
	}
	return a.Taken == b.Taken && a.Err == b.Err && slices.EqualFunc(a.Sent, b.Sent, alike)
}

// spoil changes all memory that a list has, the room behind its end too.
func spoil[T any](l []T, with T) {
	l = l[:cap(l)]
	for i := range l {
		l[i] = with
	}
}

// spoilAll changes all memory of an answer.
func spoilAll(t api.Tcp, o api.Out) {
	spoil(t.Ring.Data, 0xaa)
	spoil(t.Recs, api.Rec{From: -7})
	spoil(t.Low, api.Entry{At: -7})
	spoil(t.Cc.Bw, api.Entry{At: -7})
	spoil(t.Timers, api.Timer{At: -7})
	for _, x := range o.Sent {
		spoil(x.Data, 0xaa)
	}
	spoil(o.Sent, api.Sent{From: -7})
}

// difference tells where two senders are not the same.
func difference(a, b api.Tcp) string {
	x, y := reflect.ValueOf(copied(a)), reflect.ValueOf(copied(b))
	for i := range x.NumField() {
		if !reflect.DeepEqual(x.Field(i).Interface(), y.Field(i).Interface()) {
			return x.Type().Field(i).Name
		}
	}
	return ""
}

// step does a step, and holds it against the words: what comes of it, that what is handed in stays as it was, that the
// same step again answers the same, in memory of its own, and that what may be may be behind it.
func step(t *testing.T, s api.Tcp, in api.In) (api.Tcp, api.Out) {
	t.Helper()
	was, data := copied(s), roomy(in.Data)
	want, wantOut := wantStep(was, in)
	want, wantOut = copied(want), copiedOut(wantOut)
	y, o := sender.Step(s, in)
	if !same(y, want) || !sameOut(o, wantOut) {
		t.Fatalf("%+v\nof %+v\nanswers %+v %+v\nnot     %+v %+v\n(%s)", in, was, y, o, want, wantOut, difference(y, want))
	}
	z, p := sender.Step(s, in)
	if !same(z, y) || !sameOut(p, o) {
		t.Fatalf("%+v of %+v: not the same again", in, was)
	}
	spoilAll(z, p)
	if !same(s, was) || !bytes.Equal(in.Data, data) {
		t.Fatalf("%+v of %+v: changed", in, was)
	}
	if !same(y, want) || !sameOut(o, wantOut) {
		t.Fatalf("%+v of %+v: two answers share memory", in, was)
	}
	if o.Err != api.ErrState && sender.Check(y) != api.OK {
		t.Fatalf("%+v of %+v: may not be behind it", in, was)
	}
	return y, o
}

// flight is bytes on their way, and when they come.
type flight struct {
	data []byte
	at   int
}

// world is a sender, a receiver, and paths that lose, double, turn and hold up, by dice.
type world struct {
	t      *testing.T
	d      *dice
	s      api.Tcp
	r      api.Recv
	forth  []flight
	back   []flight
	all    []byte // all that writes took
	got    []byte // all that was read
	log    []api.Sent
	delay  int // one way
	bad    int // one in so many is lost, doubled, or comes out of order; 0: none
	each   func(was, is api.Tcp, o api.Out)
	forged bool
}

// newWorld answers one of a configuration.
func newWorld(t *testing.T, d *dice, c api.Config) *world {
	t.Helper()
	s, e := sender.New(c)
	if e != api.OK {
		t.Fatal(c, e)
	}
	r, e := recv.New(c.Rcv, c.Shift, c.Iss, c.Irs, c.Stamps, c.Sacks)
	if e != api.OK {
		t.Fatal(c, e)
	}
	w := &world{t: t, d: d, s: s, r: r, delay: 1 + d.below(min(5000, c.High/8+1))}
	if d.yes(8) {
		w.delay *= 10
	}
	return w
}

// step has something happen to the sender.
func (w *world) step(in api.In) {
	w.t.Helper()
	was := w.s
	y, o := step(w.t, w.s, in)
	if in.Kind == api.InWrite {
		w.all = append(w.all, in.Data[:o.Taken]...)
	}
	if w.each != nil {
		w.each(was, y, o)
	}
	w.s = y
	w.log = append(w.log, o.Sent...)
	for _, x := range o.Sent {
		w.forth = w.put(w.forth, x.Data)
	}
}

// put lets bytes go, as the path goes.
func (w *world) put(l []flight, data []byte) []flight {
	if w.bad > 0 && w.d.yes(w.bad) {
		return l
	}
	late := 0
	if w.bad > 0 && w.d.yes(w.bad) {
		late = w.d.below(2 * w.delay)
	}
	l = append(l, flight{data, w.s.Now + w.delay + late})
	if w.bad > 0 && w.d.yes(2*w.bad) {
		l = append(l, flight{slices.Clone(data), w.s.Now + w.delay + w.d.below(2*w.delay)})
	}
	return l
}

// soonest answers the place of what comes first, -1 without any.
func soonest(l []flight) int {
	best := -1
	for i, x := range l {
		if best < 0 || x.at < l[best].at {
			best = i
		}
	}
	return best
}

// take takes a flight off.
func take(l *[]flight, i int) flight {
	x := (*l)[i]
	*l = slices.Delete(*l, i, i+1)
	return x
}

// reply sends a receiver's answer back.
func (w *world) reply(s api.Segment) {
	s.SrcPort, s.DstPort = 2, 1
	b, e := wire.Put(s, 2, 1)
	if e != api.OK {
		w.t.Fatal(s, e)
	}
	w.back = w.put(w.back, b)
}

// hear has a datagram come to the receiver.
func (w *world) hear(data []byte) {
	s, e := wire.Get(data, 1, 2)
	if e != api.OK {
		w.t.Fatalf("what was sent is no segment: %v", data)
	}
	r, answer, ok, _ := recv.Input(w.r, s)
	w.r = r
	if ok {
		w.reply(answer)
	}
}

// read has the receiver's bytes read.
func (w *world) read(n int) {
	r, data, answer, ok, _ := recv.Read(w.r, n)
	w.r = r
	w.got = append(w.got, data...)
	if ok {
		w.reply(answer)
	}
}

// pass lets what comes next come: a datagram, or the time of a timer. It tells whether there was anything.
func (w *world) pass() bool {
	w.t.Helper()
	i, k := soonest(w.forth), soonest(w.back)
	next, runs := timer.Next(w.s.Timers)
	switch {
	case i >= 0 && (k < 0 || w.forth[i].at <= w.back[k].at) && (!runs || w.forth[i].at <= next.At):
		w.hear(take(&w.forth, i).data)
	case k >= 0 && (!runs || w.back[k].at <= next.At):
		x := take(&w.back, k)
		w.step(api.In{Kind: api.InSegment, Now: max(x.at, w.s.Now), Data: x.data})
	case runs:
		w.step(api.In{Kind: api.InTick, Now: max(next.At, w.s.Now)})
	default:
		return false
	}
	return true
}

// stir has one thing happen, by the dice.
func (w *world) stir() {
	w.t.Helper()
	now := w.s.Now
	switch n := w.d.below(40); {
	case n < 6:
		w.step(api.In{Kind: api.InWrite, Now: now, Data: w.d.bytes(w.d.below(1 + w.d.of(3, 30, 300, 3000)))})
	case n == 6 && w.d.yes(8):
		w.step(api.In{Kind: api.InClose, Now: now})
	case n == 7:
		w.step(api.In{Kind: api.InTick, Now: now + w.d.below(1+w.d.of(1, 100, 10000, 1000000))})
	case n < 10:
		w.read(w.d.below(1 + w.d.of(1, 20, 2000)))
	case n == 10 && len(w.back) > 0:
		b := slices.Clone(w.back[w.d.below(len(w.back))].data)
		b[w.d.below(len(b))] ^= 1 << w.d.below(8)
		w.step(api.In{Kind: api.InSegment, Now: now, Data: b})
	case n == 11 && len(w.back) > 0 && w.bad > 0:
		w.step(api.In{Kind: api.InSegment, Now: now, Data: take(&w.back, w.d.below(len(w.back))).data})
	case n == 12 && w.forged:
		w.step(api.In{Kind: api.InSegment, Now: now + w.d.below(3), Data: w.forge()})
	default:
		w.pass()
	}
}

// number answers a sequence number: of an offset of the sender's, or close to it.
func (w *world) number() uint32 {
	una, top := sender.Una(w.s), sender.Top(w.s)
	n := w.d.of(una, una, top, top, una+w.d.below(top-una+1), una+w.d.below(top-una+1)) + w.d.of(0, 0, 0, 0, 1, -1, 9)
	return w.s.Config.Iss + uint32(n)
}

// forge answers a segment that no receiver sent, and that mostly counts.
func (w *world) forge() []byte {
	d, s := w.d, api.Segment{SrcPort: 2, DstPort: 1, Flags: api.Ack, Mss: -1, Scale: -1}
	s.Seq, s.Ack = w.s.Config.Irs+uint32(w.s.Peer), w.number()
	if d.yes(9) {
		s.Seq += uint32(d.of(1, -1, 1<<31))
	}
	if d.yes(9) {
		s.Flags = d.below(256)
	}
	s.Win = d.of(0, 1, 9, 65535, d.below(65536))
	if w.s.Config.Stamps != d.yes(9) {
		s.Stamped = true
		s.Val = w.s.Recent + uint32(d.of(0, 1, 5, -1))
		s.Ecr = uint32(w.s.Now) - uint32(d.of(0, 1, 300, w.delay, 3*w.delay, -1))
	}
	for range d.of(0, 0, 1, 2, 3) {
		s.Sacks = append(s.Sacks, api.Block{From: w.number(), To: w.number()})
	}
	b, e := wire.Put(s, 2, 1)
	if e != api.OK {
		w.t.Fatal(s, e)
	}
	return b
}

// config answers a configuration, by the dice: small ones most of the time, so that edges are met.
func config(d *dice) api.Config {
	c := api.Config{
		Mss: d.of(8, 10, 20), Cap: d.of(1, 50, 1000, 5000), Rcv: d.of(1, 20, 300, 3000),
		Shift: d.of(0, 0, 1, 3), Cc: api.CcKind(1 + d.below(3)),
		Nagle: d.yes(2), Stamps: d.yes(2), Sacks: !d.yes(3), Pace: d.yes(2),
		Iss: uint32(d.of(0, 7, -1, -500, 1<<31-100)), Irs: uint32(d.of(0, -1, 12345)),
		Low: d.of(1, 1000, 20000), First: d.of(1, 2, 10, 100), Floor: d.of(1, 1000, 100000),
	}
	c.Rcv = max(c.Rcv, 1<<c.Shift)
	if d.yes(2) {
		// A wide one, so that much is on its way.
		c.Mss, c.Cap, c.Rcv, c.First, c.Floor = d.of(50, 100), 8000, 60000, d.of(2, 10, 30), 100000
	}
	c.High = c.Low * d.of(1, 10, 1000, 1000, 1000)
	c.Burst = c.Mss * d.of(1, 1, 2, 20)
	return c
}
