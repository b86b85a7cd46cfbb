package link_test

import (
	"bytes"
	"math"
	"testing"

	"tideway/api"
	"tideway/link"
	"tideway/recv"
	"tideway/sender"
	"tideway/wire"
)

// small answers a configuration that sends two segments of ten bytes at first.
func small() api.Config {
	return api.Config{
		Mss: 10, Cap: 1000, Rcv: 1000, Cc: api.Reno, Iss: 100, Irs: 500,
		Low: 1000, High: 100000, First: 2, Burst: 20, Floor: 1000,
	}
}

// each asks a question of every controller with every choice of flags.
func each(t *testing.T, c api.Config, ask func(t *testing.T, c api.Config)) {
	t.Helper()
	for n := range 48 {
		ask(t, flagged(c, n))
	}
}

// text answers n bytes, each one another.
func text(n int) []byte {
	b := make([]byte, n)
	for i := range b {
		b[i] = byte('a' + i%26)
	}
	return b
}

// does has a link do events of which none is refused.
func does(t *testing.T, l *link.Link, events ...api.Event) {
	t.Helper()
	for _, e := range events {
		if no := l.Do(e); no != api.OK {
			t.Fatalf("%+v: %v", e, no)
		}
	}
}

// refuses asks that a link refuses an event, that nothing is changed, and that nothing was sent.
func refuses(t *testing.T, l *link.Link, e api.Event, want api.Errno) {
	t.Helper()
	was := see(l).unsent()
	if no := l.Do(e); no != want {
		t.Fatalf("%+v: %v, not %v", e, no, want)
	}
	if is := see(l); !same(is, was) {
		t.Fatalf("%+v: changed %s", e, difference(is, was))
	}
}

// The events, short.
func write(b []byte) api.Event { return api.Event{Kind: api.EvWrite, Data: b} }
func tick(at int) api.Event    { return api.Event{Kind: api.EvTick, At: at} }
func forth(at int) api.Event   { return api.Event{Kind: api.EvForth, At: at} }
func back(at int) api.Event    { return api.Event{Kind: api.EvBack, At: at} }
func read(n int) api.Event     { return api.Event{Kind: api.EvRead, At: n} }

var closes = api.Event{Kind: api.EvClose}

// stepped answers what a Step of a link's sender would do.
func stepped(l *link.Link, kind api.InKind, later int, data []byte) (api.Tcp, api.Out) {
	x := l.Tcp()
	return sender.Step(x, api.In{Kind: kind, Now: x.Now + later, Data: data})
}

// P24.1: New.

func TestNewRefuses(t *testing.T) {
	edits := []func(c *api.Config){
		func(c *api.Config) { c.Mss = 7 }, func(c *api.Config) { c.Mss, c.Burst = 60001, 60001 },
		func(c *api.Config) { c.Cap = 0 }, func(c *api.Config) { c.Cap = api.MaxSize + 1 },
		func(c *api.Config) { c.Rcv = 0 }, func(c *api.Config) { c.Rcv = api.MaxSize + 1 },
		func(c *api.Config) { c.Shift = -1 }, func(c *api.Config) { c.Shift, c.Rcv = 15, api.MaxSize },
		func(c *api.Config) { c.Shift, c.Rcv = 3, 7 },
		func(c *api.Config) { c.Cc = 0 }, func(c *api.Config) { c.Cc = 4 },
		func(c *api.Config) { c.Low = 0 }, func(c *api.Config) { c.Low = c.High + 1 },
		func(c *api.Config) { c.High = 1<<45 + 1 }, func(c *api.Config) { c.High = -1 },
		func(c *api.Config) { c.First = 0 }, func(c *api.Config) { c.First = 101 },
		func(c *api.Config) { c.Burst = 9 }, func(c *api.Config) { c.Burst = api.MaxSize + 1 },
		func(c *api.Config) { c.Floor = 0 }, func(c *api.Config) { c.Floor = api.MaxRate + 1 },
	}
	each(t, small(), func(t *testing.T, c api.Config) {
		for n, edit := range edits {
			x := c
			edit(&x)
			if l, e := link.New(x); l != nil || e != api.ErrArg || e != sender.Valid(x) {
				t.Errorf("%d: %+v: %v %v", n, x, l, e)
			}
		}
	})
	if l, e := link.New(api.Config{}); l != nil || e != api.ErrArg {
		t.Error(l, e)
	}
}

func TestFresh(t *testing.T) {
	edits := []func(c *api.Config){
		func(c *api.Config) {},
		func(c *api.Config) { c.Mss = 8 }, func(c *api.Config) { c.Mss, c.Burst = 60000, 60000 },
		func(c *api.Config) { c.Cap, c.Rcv = 1, 1 }, func(c *api.Config) { c.Cap, c.Rcv = api.MaxSize, api.MaxSize },
		func(c *api.Config) { c.Shift, c.Rcv = 14, 1<<14 }, func(c *api.Config) { c.Shift, c.Rcv = 3, 1003 },
		func(c *api.Config) { c.Low, c.High = 1<<45, 1<<45 }, func(c *api.Config) { c.First, c.Burst = 100, api.MaxSize },
		func(c *api.Config) { c.Floor, c.Iss, c.Irs = api.MaxRate, math.MaxUint32, 1<<31 },
	}
	each(t, small(), func(t *testing.T, c api.Config) {
		for _, edit := range edits {
			x := c
			edit(&x)
			l := made(t, x)
			s, _ := sender.New(x)
			r, _ := recv.New(x.Rcv, x.Shift, x.Iss, x.Irs, x.Stamps, x.Sacks)
			if is := see(l); !same(is, seen{Tcp: s, Recv: r}) {
				t.Errorf("%+v: %+v", x, is)
			}
		}
	})
	// The receiver counts from the sender's first number, and answers from its own.
	r := made(t, small()).Recv()
	if r.Irs != 100 || r.Own != 500 || r.Cap != 1000 || r.Edge != 1000 || r.Fin != -1 || r.Stamps || r.Sacks {
		t.Error(r)
	}
}

func TestNotMade(t *testing.T) {
	for _, l := range []*link.Link{nil, {}, new(link.Link)} {
		for k := api.EventKind(-1); k <= 14; k++ {
			for _, at := range []int{-1, 0, 1} {
				if e := l.Do(api.Event{Kind: k, At: at, Data: text(3)}); e != api.ErrNil {
					t.Error(k, e)
				}
			}
		}
		if is := see(l); !same(is, seen{}) {
			t.Errorf("%+v", is)
		}
	}
	var l link.Link
	l.Do(write(text(3)))
	if !same(see(&l), seen{}) {
		t.Error("changed")
	}
}

func TestApart(t *testing.T) {
	a, b := made(t, small()), made(t, small())
	fresh := see(b)
	does(t, a, write(text(25)), tick(5), forth(0), forth(0), back(0), read(9), closes)
	if !same(see(b), fresh) {
		t.Error("one link knows of another")
	}
	was := see(a)
	does(t, b, tick(100000), write(text(3)))
	if !same(see(a), was) {
		t.Error("one link knows of another")
	}
}

// busy answers a link all of whose lists have something.
func busy(t *testing.T) *link.Link {
	t.Helper()
	c := flagged(small(), 2)
	c.Stamps, c.Sacks, c.First = true, true, 9
	l := made(t, c)
	does(t, l, write(text(60)), tick(100), forth(0), back(0), forth(1), forth(2), forth(0), read(5), write(text(80)))
	s := see(l)
	lists := []int{
		len(s.Tcp.Ring.Data), len(s.Tcp.Recs), len(s.Tcp.Low), len(s.Tcp.Cc.Bw), len(s.Tcp.Timers),
		len(s.Recv.Unread), len(s.Recv.Late), len(s.Recv.First), len(s.Forth), len(s.Back), len(s.Sent), len(s.Got),
	}
	for n, x := range lists {
		if x == 0 {
			t.Fatal("there is nothing in list", n)
		}
	}
	return l
}

func TestAnswersAreNew(t *testing.T) {
	l := busy(t)
	was := see(l)
	for range 2 {
		spoilAll(see(l))
		if is := see(l); !same(is, was) {
			t.Fatal("shared:", difference(is, was))
		}
	}
	// Nor does what was told before change by what the link does later.
	is := see(busy(t))
	later := busy(t)
	told := see(later)
	r := &run{t: t, l: later}
	r.round(200000)
	r.round(200000)
	if !same(told, is) {
		t.Error("what was told has changed:", difference(told, is))
	}
}

func TestDataIsNotKept(t *testing.T) {
	l, other := made(t, small()), made(t, small())
	b := text(25)
	does(t, l, write(b))
	does(t, other, write(text(25)))
	spoil(b, 0)
	if !same(see(l), see(other)) {
		t.Error("what is written is kept")
	}
	forged := answered(t, l, 10, 700)
	does(t, other, api.Event{Kind: api.EvForge, Data: bytes.Clone(forged)})
	does(t, l, api.Event{Kind: api.EvForge, Data: forged})
	spoil(forged, 0)
	if !same(see(l), see(other)) {
		t.Error("what is forged is kept")
	}
}

// answered answers the bytes by which a receiver would acknowledge up to an offset, and tell a window.
func answered(t *testing.T, l *link.Link, ack, win int) []byte {
	t.Helper()
	c := l.Tcp().Config
	s := api.Segment{SrcPort: 2, DstPort: 1, Seq: c.Irs, Ack: c.Iss + uint32(ack), Flags: api.Ack, Win: win, Mss: -1, Scale: -1}
	if c.Stamps {
		s.Stamped, s.Ecr = true, uint32(l.View().Now)
	}
	b, e := wire.Put(s, 2, 1)
	if e != api.OK {
		t.Fatal(e)
	}
	return b
}

// P24.2: a kind that is none.

func TestNoSuchKind(t *testing.T) {
	for _, l := range []*link.Link{made(t, small()), busy(t)} {
		for _, k := range []api.EventKind{0, -1, 14, 99, math.MaxInt, math.MinInt} {
			refuses(t, l, api.Event{Kind: k, At: 0, Draw: 0, Data: text(3)}, api.ErrEvent)
		}
	}
}

// P24.2: EvWrite and EvClose.

func TestWrite(t *testing.T) {
	c := small()
	c.Cap = 30
	each(t, c, func(t *testing.T, c api.Config) {
		l := made(t, c)
		for _, x := range []struct{ n, accepted int }{{0, 0}, {25, 25}, {10, 30}, {10, 30}, {1, 30}} {
			want, o := stepped(l, api.InWrite, 0, text(x.n))
			does(t, l, write(text(x.n)))
			if v := l.View(); v.Accepted != x.accepted || !same(l.Tcp(), want) || !same(l.Sent(), o.Sent) {
				t.Fatalf("%+v: %+v", x, v)
			}
		}
		if v := l.View(); v.Forth != 2 || len(l.Forth()) != 2 || v.Back != 0 || v.Now != 0 {
			t.Error(v)
		}
		// What is acknowledged makes room.
		does(t, l, forth(0), back(0))
		does(t, l, write(text(99)))
		if v := l.View(); v.Accepted != 40 {
			t.Error(v)
		}
	})
}

func TestClose(t *testing.T) {
	each(t, small(), func(t *testing.T, c api.Config) {
		l := made(t, c)
		does(t, l, write(text(5)))
		want, o := stepped(l, api.InClose, 0, nil)
		does(t, l, closes)
		if !same(l.Tcp(), want) || !same(l.Sent(), o.Sent) || !l.Tcp().Ring.Closed {
			t.Error(l.Tcp())
		}
		refuses(t, l, closes, api.ErrEnd)
		refuses(t, l, write(text(5)), api.ErrEnd)
		refuses(t, l, write(nil), api.ErrEnd)
		if v := l.View(); v.Accepted != 5 {
			t.Error(v)
		}
		// Data of an EvClose is nobody's.
		l = made(t, c)
		does(t, l, api.Event{Kind: api.EvClose, Data: text(5), At: -1})
		if v := l.View(); v.Accepted != 0 || v.Forth != 1 {
			t.Error(v)
		}
	})
}

// A step whose write is refused is a step still: here the controller rests once more, as nothing goes.
func TestRefusedStep(t *testing.T) {
	c := small()
	c.Rcv, c.First = 40, 1
	l := made(t, c)
	does(t, l, write(text(40)), closes)
	for l.View().Forth > 0 {
		does(t, l, forth(0), tick(500), back(0))
	}
	x := l.Tcp()
	does(t, l, tick(x.Rtt.Rto-500+1))
	was := l.Tcp()
	want, o := stepped(l, api.InWrite, 0, text(1))
	if o.Err != api.ErrEnd || len(was.Recs) != 0 || same(want, was) {
		t.Fatalf("%+v\n%+v", was, want)
	}
	if no := l.Do(write(text(1))); no != api.ErrEnd || !same(l.Tcp(), want) || len(l.Sent()) != 0 {
		t.Error(no, difference(see(l), seen{Tcp: want}))
	}
}

// P24.2: EvTick.

func TestTick(t *testing.T) {
	each(t, small(), func(t *testing.T, c api.Config) {
		l := made(t, c)
		does(t, l, write(text(25)))
		for _, at := range []int{-1, math.MinInt, 1<<40 + 1, 1 << 49, math.MaxInt} {
			refuses(t, l, tick(at), api.ErrArg)
		}
		now := 0
		for _, at := range []int{0, 1, 2000, 0, c.High + 1, 1 << 40} {
			want, o := stepped(l, api.InTick, at, nil)
			does(t, l, tick(at))
			now += at
			if v := l.View(); v.Now != now || !same(l.Tcp(), want) || !same(l.Sent(), o.Sent) {
				t.Fatal(at, v)
			}
			if len(o.Sent) > 0 && l.Forth()[l.View().Forth-1].Sent != now {
				t.Error("not sent at", now)
			}
		}
		if l.View().Forth < 4 {
			t.Error("no timer went off")
		}
	})
}

func TestTickToTheEnd(t *testing.T) {
	l := made(t, small())
	for range 511 {
		does(t, l, tick(1<<40))
	}
	does(t, l, tick(1<<40-1))
	refuses(t, l, tick(2), api.ErrArg)
	refuses(t, l, tick(1<<40), api.ErrArg)
	does(t, l, tick(0), tick(1), tick(0))
	if v := l.View(); v.Now != 1<<49 {
		t.Error(v)
	}
	refuses(t, l, tick(1), api.ErrArg)
	refuses(t, l, tick(1<<40), api.ErrArg)
	// There all else is done as before.
	does(t, l, write(text(5)), closes, forth(0), forth(0), back(0), back(0), read(9))
	if v := l.View(); !v.Sure || !v.Done || v.Now != 1<<49 {
		t.Error(v)
	}
}
