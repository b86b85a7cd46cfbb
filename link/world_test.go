package link_test

import (
	"bytes"
	"reflect"
	"testing"

	"tideway/api"
	"tideway/link"
	"tideway/timer"
	"tideway/wire"
)

// dice throws numbers that look like chance and are the same each time.
type dice struct{ state uint64 }

// below answers a number from 0 on, below n.
func (d *dice) below(n int) int {
	d.state = d.state*6364136223846793005 + 1442695040888963407
	return int(d.state>>33) % n
}

// yes tells whether one throw in n came out well.
func (d *dice) yes(n int) bool { return d.below(n) == 0 }

// of answers one of some numbers.
func (d *dice) of(l ...int) int { return l[d.below(len(l))] }

// bytes answers n bytes.
func (d *dice) bytes(n int) []byte {
	b := make([]byte, n)
	for i := range b {
		b[i] = byte(d.below(256))
	}
	return b
}

// seen is all that a link tells.
type seen struct {
	View  api.View
	Tcp   api.Tcp
	Recv  api.Recv
	Forth []api.Datagram
	Back  []api.Datagram
	Sent  []api.Sent
	Got   []byte
}

// see answers all that a link tells.
func see(l *link.Link) seen {
	return seen{l.View(), l.Tcp(), l.Recv(), l.Forth(), l.Back(), l.Sent(), l.Got()}
}

// unsent answers the same, but for what the last event sent.
func (s seen) unsent() seen {
	s.Sent = nil
	return s
}

// alike tells whether two values are the same: nil and empty lists are.
func alike(a, b reflect.Value) bool {
	switch a.Kind() {
	case reflect.Struct:
		for i := range a.NumField() {
			if !alike(a.Field(i), b.Field(i)) {
				return false
			}
		}
		return true
	case reflect.Slice:
		if a.Len() != b.Len() {
			return false
		}
		if a.Type().Elem().Kind() == reflect.Uint8 {
			return bytes.Equal(a.Bytes(), b.Bytes())
		}
		for i := range a.Len() {
			if !alike(a.Index(i), b.Index(i)) {
				return false
			}
		}
		return true
	}
	return a.Interface() == b.Interface()
}

// same tells whether two things are the same: nil and empty lists are.
func same[T any](a, b T) bool { return alike(reflect.ValueOf(a), reflect.ValueOf(b)) }

// difference tells in what two links are not the same.
func difference(a, b seen) string {
	x, y := reflect.ValueOf(a), reflect.ValueOf(b)
	for i := range x.NumField() {
		if !alike(x.Field(i), y.Field(i)) {
			return x.Type().Field(i).Name
		}
	}
	return ""
}

// spoil changes all memory that a list has, the room behind its end too.
func spoil[T any](l []T, with T) {
	l = l[:cap(l)]
	for i := range l {
		l[i] = with
	}
}

// spoilAll changes all memory of what a link has told.
func spoilAll(s seen) {
	spoil(s.Tcp.Ring.Data, 0xaa)
	spoil(s.Tcp.Recs, api.Rec{From: -7})
	spoil(s.Tcp.Low, api.Entry{At: -7})
	spoil(s.Tcp.Cc.Bw, api.Entry{At: -7})
	spoil(s.Tcp.Timers, api.Timer{At: -7})
	spoil(s.Recv.Unread, 0xaa)
	spoil(s.Recv.First, api.Span{From: -7})
	for _, x := range s.Recv.Late {
		spoil(x.Data, 0xaa)
	}
	spoil(s.Recv.Late, api.Piece{From: -7})
	for _, l := range [][]api.Datagram{s.Forth, s.Back} {
		for _, x := range l {
			spoil(x.Data, 0xaa)
		}
		spoil(l, api.Datagram{Sent: -7})
	}
	for _, x := range s.Sent {
		spoil(x.Data, 0xaa)
	}
	spoil(s.Sent, api.Sent{From: -7})
	spoil(s.Got, 0xaa)
}

// made answers a link of a configuration.
func made(t *testing.T, c api.Config) *link.Link {
	t.Helper()
	l, e := link.New(c)
	if e != api.OK {
		t.Fatal(c, e)
	}
	return l
}

// flagged answers c with the controller and the flags that a number says: all of them from 0 on, below 48.
func flagged(c api.Config, n int) api.Config {
	c.Cc = api.CcKind(1 + n%3)
	n /= 3
	c.Pace, c.Stamps, c.Sacks, c.Nagle = n&1 > 0, n&2 > 0, n&4 > 0, n&8 > 0
	return c
}

// config answers a configuration by the dice, but for its controller and its flags: small ones most of the time, so that
// edges are met.
func config(d *dice) api.Config {
	c := api.Config{
		Mss: d.of(8, 10, 20), Cap: d.of(1, 50, 1000, 5000), Rcv: d.of(1, 20, 300, 3000), Shift: d.of(0, 0, 1, 3),
		Iss: uint32(d.of(0, 7, -1, -500, 1<<31-100)), Irs: uint32(d.of(0, -1, 12345)),
		Low: d.of(1, 1000, 20000), First: d.of(1, 2, 10, 100), Floor: d.of(1, 1000, 100000),
	}
	c.Rcv = max(c.Rcv, 1<<c.Shift)
	if d.yes(3) {
		// A wide one, so that much is on its way.
		c.Mss, c.Cap, c.Rcv, c.First, c.Floor = d.of(50, 100), 8000, 60000, d.of(2, 10, 30), 100000
	}
	c.High = c.Low * d.of(1, 10, 1000, 1000, 1000)
	c.Burst = c.Mss * d.of(1, 1, 2, 20)
	return c
}

// script draws events for a link.
type script struct {
	d      *dice
	forged bool // bytes come to the sender that nobody sent, and acknowledgements are spoilt
	spoils int  // how many datagrams to the receiver may be spoilt
	most   int  // how many bytes may be written
	time   int  // how much time may pass
	wrong  bool // what is refused is asked for, too
}

// anything answers a script that does all that there is.
func anything(d *dice) *script {
	return &script{d: d, forged: true, spoils: 1 << 30, most: 1 << 30, time: 1 << 48, wrong: true}
}

// place answers a place in a row of n.
func (s *script) place(n int) int {
	switch {
	case s.wrong && s.d.yes(12):
		return s.d.of(-1, n, n+1, 1<<62, -1<<63)
	case n == 0 || s.d.yes(2):
		return 0
	}
	return s.d.below(n)
}

// wait answers how much time passes: often up to the next timer.
func (s *script) wait(l *link.Link) int {
	if s.wrong && s.d.yes(12) {
		return s.d.of(-1, 1<<40+1, 1<<62, 1<<63-1, -1<<63)
	}
	n := s.d.below(1 + s.d.of(1, 100, 10000, 1000000))
	x := l.Tcp()
	if next, runs := timer.Next(x.Timers); runs && !s.d.yes(3) {
		n = max(next.At-x.Now+s.d.of(0, 0, 0, -1, 1), 0)
	}
	n = min(n, s.time)
	s.time -= n
	return n
}

// bit answers a bit of a datagram, if there is that one.
func (s *script) bit(l []api.Datagram, at int) int {
	if at < 0 || at >= len(l) {
		return s.d.of(-1, 0, 5)
	}
	n := 8 * len(l[at].Data)
	if s.wrong && s.d.yes(8) {
		return s.d.of(-1, n, n+1, 1<<62, -1<<63)
	}
	return s.d.of(0, n-1, s.d.below(n))
}

// event draws an event.
func (s *script) event(l *link.Link) api.Event {
	v := l.View()
	switch n := s.d.below(100); {
	case n < 12:
		e := api.Event{Kind: api.EvWrite, Data: s.d.bytes(min(s.d.below(1+s.d.of(3, 30, 300, 3000)), s.most))}
		s.most -= len(e.Data)
		return e
	case n < 13:
		return api.Event{Kind: api.EvClose}
	case n < 28:
		return api.Event{Kind: api.EvTick, At: s.wait(l)}
	case n < 53:
		return api.Event{Kind: api.EvForth, At: s.place(v.Forth)}
	case n < 73:
		return api.Event{Kind: api.EvBack, At: s.place(v.Back)}
	case n < 76:
		return api.Event{Kind: api.EvLose, At: s.place(v.Forth)}
	case n < 78:
		return api.Event{Kind: api.EvLoseAck, At: s.place(v.Back)}
	case n < 81:
		return api.Event{Kind: api.EvDouble, At: s.place(v.Forth)}
	case n < 83:
		return api.Event{Kind: api.EvDoubleAck, At: s.place(v.Back)}
	case n < 91:
		return api.Event{Kind: api.EvRead, At: s.d.below(1 + s.d.of(1, 20, 2000))}
	}
	return s.rare(l)
}

// rare draws an event that not every script has.
func (s *script) rare(l *link.Link) api.Event {
	v, d := l.View(), s.d
	switch n := d.below(10); {
	case n < 2 && s.spoils > 0 && v.Forth > 0:
		e := api.Event{Kind: api.EvSpoil, At: s.place(v.Forth)}
		e.Draw = s.bit(l.Forth(), e.At)
		s.spoils--
		return e
	case n < 4 && s.forged:
		e := api.Event{Kind: api.EvSpoilAck, At: s.place(v.Back)}
		e.Draw = s.bit(l.Back(), e.At)
		return e
	case n < 5 && s.forged:
		return api.Event{Kind: api.EvForge, Data: d.bytes(d.below(80))}
	case n < 7 && s.forged:
		return api.Event{Kind: api.EvForge, Data: forge(d, l.Tcp())}
	case n < 8 && s.wrong:
		return api.Event{Kind: api.EventKind(d.of(0, -1, 14, 99)), At: d.below(3), Data: d.bytes(3)}
	case n < 9 && s.wrong:
		return api.Event{Kind: api.EvRead, At: d.of(0, -1, 1<<62, -1<<63)}
	}
	return api.Event{Kind: api.EvForth, At: s.place(v.Forth)}
}

// forge answers a segment that no receiver sent, and that mostly counts.
func forge(d *dice, x api.Tcp) []byte {
	s := api.Segment{SrcPort: 2, DstPort: 1, Flags: api.Ack, Mss: -1, Scale: -1, Win: d.of(0, 1, 9, 65535, d.below(65536))}
	number := func() uint32 {
		una, n := x.Ring.Base, x.Next-x.Ring.Base
		return x.Config.Iss + uint32(una+d.of(0, 0, n, n, d.below(n+1), d.below(n+1))+d.of(0, 0, 0, 0, 1, -1, 9))
	}
	s.Seq, s.Ack = x.Config.Irs+uint32(x.Peer), number()
	if d.yes(9) {
		s.Seq += uint32(d.of(1, -1, 1<<31))
	}
	if d.yes(9) {
		s.Flags = d.below(256)
	}
	if x.Config.Stamps != d.yes(9) {
		s.Stamped = true
		s.Val = x.Recent + uint32(d.of(0, 0, 0, 1, -1))
		s.Ecr = uint32(x.Now) - uint32(d.of(0, 1, 300, 10000, -1))
	}
	for range d.of(0, 0, 1, 2, 3) {
		s.Sacks = append(s.Sacks, api.Block{From: number(), To: number()})
	}
	b, e := wire.Put(s, 2, 1)
	if e != api.OK {
		panic("a forged segment that may not be")
	}
	return b
}
