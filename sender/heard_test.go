package sender_test

import (
	"slices"
	"testing"

	"tideway/api"
	"tideway/sender"
	"tideway/wire"
)

// P23.4: what is no segment, or does not count

// unheard holds a segment's bytes against none at all: nothing but time may have passed.
func unheard(t *testing.T, name string, s api.Tcp, now int, data []byte) {
	t.Helper()
	want, wantOut := tick(t, s, now)
	y, o := step(t, s, api.In{Kind: api.InSegment, Now: now, Data: data})
	if !same(y, want) || !sameOut(o, wantOut) {
		t.Errorf("%s: %s", name, difference(y, want))
	}
}

// stamped answers base with Stamps.
func stamped() api.Config {
	c := base()
	c.Stamps = true
	return c
}

func TestNoSegment(t *testing.T) {
	s := flying(t, stamped(), 3)
	good := put(t, told{ack: 20, win: 500, val: 3, rtt: 50, blocks: []pair{{20, 30}}}.segment(s, 100))
	for i := range len(good) * 8 {
		b := slices.Clone(good)
		b[i/8] ^= 1 << (i % 8)
		unheard(t, "a bit turned", s, 100, b)
	}
	for n := range len(good) {
		unheard(t, "too short", s, 100, good[:n])
	}
	unheard(t, "too long", s, 100, append(slices.Clone(good), 1))
	x := told{ack: 20, win: 500, rtt: 50}.segment(s, 100)
	b, e := wire.Put(x, 2, 2)
	if e != api.OK {
		t.Fatal(e)
	}
	unheard(t, "another address", s, 100, b)
	// Ports are nobody's business.
	x.SrcPort, x.DstPort = 77, 99
	if y, _ := step(t, s, api.In{Kind: api.InSegment, Now: 100, Data: put(t, x)}); sender.Una(y) != 20 {
		t.Error("other ports:", sender.Una(y))
	}
}

func TestDoesNotCount(t *testing.T) {
	s, _ := hear(t, flying(t, stamped(), 5), 50, told{ack: 20, win: 1000, val: 10, rtt: 40})
	for name, change := range map[string]func(x *api.Segment){
		"no Ack":         func(x *api.Segment) { x.Flags = api.Psh },
		"Syn":            func(x *api.Segment) { x.Flags |= api.Syn },
		"Rst":            func(x *api.Segment) { x.Flags |= api.Rst },
		"no stamp":       func(x *api.Segment) { x.Stamped, x.Val, x.Ecr = false, 0, 0 },
		"a stamp of old": func(x *api.Segment) { x.Val = s.Recent - 1 },
		"Seq behind":     func(x *api.Segment) { x.Seq-- },
		"Seq ahead":      func(x *api.Segment) { x.Seq++ },
		"beyond Top":     func(x *api.Segment) { x.Ack = s.Config.Iss + 51 },
		"below 0":        func(x *api.Segment) { x.Ack = s.Config.Iss - 1 },
	} {
		x := told{ack: 30, win: 500, val: 3, rtt: 50}.segment(s, 100)
		change(&x)
		unheard(t, name, s, 100, put(t, x))
	}
	y, _ := hear(t, s, 100, told{ack: 50, win: 500, rtt: 50})
	if sender.Una(y) != 50 {
		t.Error("Top is not beyond:", sender.Una(y))
	}
	// Peer says which one counts.
	s.Peer = 7
	if y, _ = hear(t, s, 100, told{ack: 30, win: 500}); sender.Una(y) != 30 || y.Peer != 7 {
		t.Error("Peer:", y)
	}
}

// TestAskedNext: what may be acknowledged goes to Top, the end's number too.
func TestAskedNext(t *testing.T) {
	s := ended(t)
	if y, _ := hear(t, s, 100, told{ack: 16, win: 1000}); !y.Sure {
		t.Error("the end:", y)
	}
	unheard(t, "beyond it", s, 100, put(t, told{ack: 17, win: 1000}.segment(s, 100)))
	if y, _ := hear(t, sure(t), 200, told{ack: 16, win: 5}); !y.Sure || y.Window.Size != 5 || y.Ring.Base != 15 {
		t.Error("again:", y)
	}
	s = sure(t)
	unheard(t, "Old", s, 200, put(t, told{ack: 15, win: 5}.segment(s, 200)))
}

func TestOld(t *testing.T) {
	s, _ := hear(t, flying(t, stamped(), 5), 50, told{ack: 20, win: 1000, val: 10, rtt: 40})
	want, _ := tick(t, s, 100)
	want.Recent += 3
	y, _ := hear(t, s, 100, told{ack: 19, win: 5, val: 3, rtt: 50, blocks: []pair{{30, 40}}})
	if !same(y, want) {
		t.Error(difference(y, want))
	}
	// Without Stamps there is nothing at all that it tells.
	s, _ = hear(t, flying(t, base(), 5), 50, told{ack: 20, win: 1000})
	unheard(t, "Old", s, 100, put(t, told{ack: 19, win: 5, blocks: []pair{{30, 40}}}.segment(s, 100)))
}

func TestRecent(t *testing.T) {
	s := flying(t, stamped(), 3)
	y, _ := hear(t, s, 100, told{ack: 10, win: 1000, val: 77})
	if y.Recent != 77 {
		t.Error(y.Recent)
	}
	if y, _ = hear(t, y, 100, told{ack: 10, win: 1000, val: 1<<31 - 1}); y.Recent != 77+1<<31-1 {
		t.Error(y.Recent)
	}
	s = flying(t, base(), 3)
	s.Recent = 5
	x := told{ack: 10, win: 1000}.segment(s, 100)
	x.Stamped, x.Val = true, 99
	if y, _ := step(t, s, api.In{Kind: api.InSegment, Now: 100, Data: put(t, x)}); y.Recent != 5 {
		t.Error("without Stamps:", y.Recent)
	}
}

// P23.4, 1: the window

func TestTold(t *testing.T) {
	for _, shift := range []int{0, 3, 14} {
		c := base()
		c.Rcv, c.Shift = 65535, shift
		s := flying(t, c, 3)
		y, _ := hear(t, s, 100, told{ack: 10, win: 7})
		if w := y.Window; w.Size != 7<<shift || w.Una != 10 || w.Wl1 != 0 || w.Wl2 != 10 || w.Edge != max(s.Window.Edge, 10+7<<shift) {
			t.Error(shift, w)
		}
	}
	// What acknowledges nothing new tells a window, too.
	s := flying(t, base(), 3)
	s.Peer = 9
	y, _ := hear(t, s, 100, told{ack: 0, win: 65535})
	if y.Window.Size != 65535 || y.Window.Most != 65535 || y.Window.Wl1 != 9 {
		t.Error(y.Window)
	}
}

// far answers a sender all of whose offsets are that much greater.
func far(s api.Tcp, by int) api.Tcp {
	s = copied(s)
	s.Ring.Base += by
	s.Next += by
	for i := range s.Recs {
		s.Recs[i].From += by
		s.Recs[i].To += by
	}
	w := &s.Window
	w.Una, w.Wl2, w.Edge = w.Una+by, w.Wl2+by, w.Edge+by
	return s
}

// TestFar: offsets go far beyond what a sequence number holds, up to the last one.
func TestFar(t *testing.T) {
	for _, by := range []int{1 << 31, 1<<40 + 12345, 1<<50 - 30} {
		s := far(flying(t, base(), 3), by)
		y, o := hear(t, s, 100, told{ack: by + 10, win: 20})
		if w := y.Window; w.Una != by+10 || w.Wl2 != by+10 || w.Size != 20 || w.Edge != by+1000 {
			t.Error(by, w)
		}
		wantWent(t, o)
		_, o = tick(t, set(s, due(api.TimResend)), 50)
		wantWent(t, o, sent{api.WhyTimeout, by, by + 10})
		if x := read(t, o.Sent[0]); x.Seq != s.Config.Iss+uint32(by) {
			t.Error(by, x)
		}
	}
	// Behind the last offset the end has a number: no window reaches so far.
	s := far(ended(t), 1<<50-15)
	y, _ := hear(t, s, 100, told{ack: 1<<50 + 1, win: 20})
	if w := y.Window; !y.Sure || w.Una != 1<<50 || w.Wl2 != 1<<50 || w.Size != 20 {
		t.Error(y.Sure, w)
	}
}

// P23.4, 2: Delivered, Ahead, the Ring, Sure

// TestDelivered: what is gone comes ahead of what was sacked just now, and what was sacked already is no more delivered.
func TestDelivered(t *testing.T) {
	s := flying(t, base(), 5)
	y, _ := hear(t, s, 100, told{ack: 10, win: 1000, blocks: []pair{{20, 30}}})
	if y.Rate.Given != 20 || y.Rack.Seen || y.Rack.Sent != 2 || y.Rack.End != 30 || y.Rack.Fack != 30 {
		t.Error("gone, then fresh:", y.Rate, y.Rack)
	}
	if len(y.Recs) != 4 || y.Recs[0].From != 10 || !y.Recs[1].Sacked {
		t.Error(y.Recs)
	}
	z, _ := hear(t, y, 200, told{ack: 30, win: 1000})
	// The second one comes later than the third one did: they were reordered.
	if z.Rate.Given != 30 || !z.Rack.Seen || len(z.Recs) != 2 {
		t.Error("sacked ahead:", z.Rate, z.Rack)
	}
	z, _ = hear(t, y, 200, told{ack: 10, win: 1000, blocks: []pair{{20, 30}}})
	if z.Rate.Given != 20 {
		t.Error("sacked twice:", z.Rate)
	}
	// Those that are fresh, by rising offsets: nothing is reordered.
	z, _ = hear(t, s, 100, told{ack: 0, win: 1000, blocks: []pair{{40, 50}, {10, 30}}})
	if z.Rate.Given != 30 || z.Rack.Seen || z.Rack.End != 50 {
		t.Error("fresh:", z.Rate, z.Rack)
	}
	// A part of a record is not delivered yet.
	z, _ = hear(t, s, 100, told{ack: 15, win: 1000})
	if z.Rate.Given != 10 || z.Recs[0].From != 15 || z.Ring.Base != 15 || sender.Una(z) != 15 {
		t.Error("a part:", z.Rate, z.Recs)
	}
	// Without Sacks no block counts.
	c := base()
	c.Sacks = false
	z, _ = hear(t, flying(t, c, 5), 100, told{ack: 0, win: 1000, blocks: []pair{{20, 30}}})
	if z.Rate.Given != 0 || z.Recs[2].Sacked {
		t.Error("without Sacks:", z.Recs)
	}
}

func TestReleased(t *testing.T) {
	s := ended(t)
	y, _ := hear(t, s, 100, told{ack: 15, win: 1000})
	if y.Sure || y.Ring.Base != 15 || len(y.Ring.Data) != 0 || len(y.Recs) != 1 || sender.Una(y) != 15 {
		t.Error("all but the end:", y)
	}
	z, _ := hear(t, y, 200, told{ack: 16, win: 1000})
	if !z.Sure || z.Ring.Base != 15 || len(z.Recs) != 0 || sender.Una(z) != 16 || sender.Top(z) != 16 || len(z.Timers) != 0 {
		t.Error("the end:", z)
	}
	if y, _ = hear(t, s, 100, told{ack: 3, win: 1000}); y.Sure || y.Ring.Base != 3 || len(y.Ring.Data) != 12 || y.Ring.Data[0] != 3 {
		t.Error("some:", y.Ring)
	}
	// All bytes without an end: there is nothing to be sure of.
	if y, _ = hear(t, flying(t, base(), 2), 100, told{ack: 20, win: 1000}); y.Sure || y.Ring.Base != 20 || len(y.Recs) != 0 {
		t.Error("no end:", y)
	}
}

// P23.4, 3: the time

func TestTimeWithStamps(t *testing.T) {
	s := flying(t, stamped(), 3)
	y, _ := hear(t, s, 100, told{ack: 10, win: 1000, rtt: 40})
	if y.Rtt.Srtt != 40 || y.Rtt.Var != 20 || y.Rtt.Rto != 1040 || !slices.Equal(y.Low, []api.Entry{{At: 100, V: 40}}) {
		t.Error(y.Rtt, y.Low)
	}
	// A stamp alone counts, not when the record was sent.
	y, _ = hear(t, s, 100, told{ack: 10, win: 1000, rtt: 0})
	if y.Rtt.Srtt != 0 || len(y.Low) != 0 {
		t.Error("no time:", y.Rtt, y.Low)
	}
	// What acknowledges nothing new has no time.
	y, _ = hear(t, s, 100, told{ack: 0, win: 1000, rtt: 40})
	if y.Rtt != s.Rtt || len(y.Low) != 0 {
		t.Error("nothing new:", y.Rtt, y.Low)
	}
	// Of a record that was sent twice, too.
	s.Recs[0].Tx = 2
	if y, _ = hear(t, s, 100, told{ack: 10, win: 1000, rtt: 40}); y.Rtt.Srtt != 40 {
		t.Error("sent twice:", y.Rtt)
	}
}

func TestTimeWithoutStamps(t *testing.T) {
	s := flying(t, base(), 5)
	s.Rtt.Rto = 50000000
	timed := func(name string, s api.Tcp, now int, x told, want int) {
		t.Helper()
		y, _ := hear(t, s, now, x)
		switch {
		case y.Rtt.Srtt != want:
			t.Error(name, y.Rtt)
		case want > 0 && !slices.Equal(y.Low, []api.Entry{{At: now, V: want}}):
			t.Error(name, y.Low)
		case want == 0 && (len(y.Low) != 0 || y.Rtt.Rto != 1000000):
			t.Error(name, "not calm:", y.Rtt, y.Low)
		}
	}
	timed("one", s, 100, told{ack: 10, win: 1000}, 100)
	timed("the last of two", s, 100, told{ack: 20, win: 1000}, 99)
	timed("one and a part", s, 100, told{ack: 19, win: 1000}, 100)
	timed("a part alone", s, 100, told{ack: 9, win: 1000}, 0)
	twice := copied(s)
	twice.Recs[1].Tx = 2
	timed("sent twice", twice, 100, told{ack: 20, win: 1000}, 0)
	timed("sent twice, not the last", twice, 100, told{ack: 30, win: 1000}, 98)
	timed("sent once, ahead of it", twice, 100, told{ack: 10, win: 1000}, 100)
	gone := copied(s)
	gone.Recs[1].Sacked = true
	timed("sacked", gone, 100, told{ack: 20, win: 1000}, 0)
	timed("sacked, not the last", gone, 100, told{ack: 30, win: 1000}, 98)
	timed("0", s, 4, told{ack: 50, win: 1000}, 0)
	timed("1", s, 4, told{ack: 40, win: 1000}, 1)
	// Without anything new the timeout stays backed off, though something was sacked.
	y, _ := hear(t, s, 100, told{ack: 0, win: 1000, blocks: []pair{{40, 50}}})
	if y.Rtt != s.Rtt || len(y.Low) != 0 {
		t.Error("nothing new:", y.Rtt)
	}
}

func TestLow(t *testing.T) {
	s := flying(t, base(), 5)
	s, _ = hear(t, s, 100, told{ack: 10, win: 1000})
	// Twice at one time: the first one stays, though the second is less. Srtt knows both.
	y, _ := hear(t, s, 100, told{ack: 20, win: 1000})
	if !slices.Equal(y.Low, []api.Entry{{At: 100, V: 100}}) || y.Rtt.Var != 37 {
		t.Error("twice:", y.Low, y.Rtt)
	}
	y, _ = hear(t, s, 101, told{ack: 20, win: 1000})
	if !slices.Equal(y.Low, []api.Entry{{At: 101, V: 100}}) {
		t.Error("as short:", y.Low)
	}
	y, _ = hear(t, s, 110, told{ack: 20, win: 1000})
	if !slices.Equal(y.Low, []api.Entry{{At: 100, V: 100}, {At: 110, V: 109}}) {
		t.Error("longer:", y.Low)
	}
	// What is more than 300 seconds ago goes.
	for _, x := range []struct{ ago, left int }{{300000000, 2}, {300000001, 1}} {
		z := copied(s)
		z.Now, z.LastAt = x.ago, x.ago
		z.Timers = nil
		z.Low = []api.Entry{{At: 100, V: 3}}
		z.Recs[0].Sent = x.ago
		if y, _ = hear(t, z, x.ago+100, told{ack: 20, win: 1000}); len(y.Low) != x.left {
			t.Error(x, y.Low)
		}
	}
	// At 0, where there is none yet.
	z := flying(t, stamped(), 1)
	if y, _ = hear(t, z, 0, told{ack: 10, win: 1000, rtt: 9}); !slices.Equal(y.Low, []api.Entry{{At: 0, V: 9}}) {
		t.Error("at 0:", y.Low)
	}
}

// P23.4, 4 and 5: what is delivered is told, and what came twice; the probe

// draining answers a BBR in Drain, of a path that holds that much, with three segments on their way.
func draining(t *testing.T, product int) api.Tcp {
	t.Helper()
	c := base()
	c.Cc = api.Bbr
	s := flying(t, c, 3)
	s.Cc.Mode, s.Cc.FullN, s.Cc.MinRtt = api.Drain, 3, product
	s.Cc.Bw = []api.Entry{{At: 0, V: 1000000}}
	return s
}

// TestFlight: the Sample has the pipe behind what was delivered, and ahead of what is lost by it.
func TestFlight(t *testing.T) {
	if y, _ := hear(t, draining(t, 20), 100, told{ack: 10, win: 1000}); y.Cc.Mode != api.ProbeBw {
		t.Error("as much as the path holds:", y.Cc)
	}
	if y, _ := hear(t, draining(t, 19), 100, told{ack: 10, win: 1000}); y.Cc.Mode != api.Drain {
		t.Error("more:", y.Cc)
	}
	for product, want := range map[int]api.BbrMode{19: api.Drain, 20: api.ProbeBw} {
		s := draining(t, product)
		s.Phase, s.High = api.Recovery, 30
		y, _ := hear(t, s, 100, told{ack: 0, win: 1000, blocks: []pair{{20, 30}}})
		if !y.Recs[0].Lost || y.Cc.Mode != want {
			t.Error(product, y.Cc, y.Recs)
		}
	}
}

// TestSample: it is of what was delivered, and its rate none, if it took less time than the shortest round trip.
func TestSample(t *testing.T) {
	c := base()
	c.Cc = api.Bbr
	s := flying(t, c, 3)
	y, _ := hear(t, s, 100, told{ack: 20, win: 1000})
	if y.Rate.Given != 20 || y.Rate.GivenAt != 100 || y.Rate.FirstAt != 1 || y.Cc.MinRtt != 99 || !slices.Equal(y.Cc.Bw, []api.Entry{{At: 1, V: 200000}}) {
		t.Error(y.Rate, y.Cc)
	}
	s.Low = []api.Entry{{At: 99, V: 101}}
	s.Recs[0].Tx, s.Recs[1].Tx = 2, 2
	if y, _ = hear(t, s, 100, told{ack: 20, win: 1000}); len(y.Cc.Bw) != 0 {
		t.Error("shorter than the shortest:", y.Cc)
	}
}

// TestRackGiven: what was sent twice, and is told sooner than any round trip was, says nothing of its last sending.
func TestRackGiven(t *testing.T) {
	s := flying(t, base(), 3)
	s.Low = []api.Entry{{At: 5, V: 100}}
	s.Recs[0].Tx = 2
	y, _ := hear(t, s, 99, told{ack: 10, win: 1000})
	if y.Rack.Sent != 0 || y.Rack.End != 0 || y.Rack.Fack != 10 {
		t.Error("too soon:", y.Rack)
	}
	if y, _ = hear(t, s, 100, told{ack: 10, win: 1000}); y.Rack.End != 10 || y.Rack.Rtt != 100 {
		t.Error("just:", y.Rack)
	}
}

func TestTwice(t *testing.T) {
	s := flying(t, base(), 3)
	y, _ := hear(t, s, 100, told{ack: 10, win: 1000, blocks: []pair{{0, 10}}})
	if y.Rack.Mult != 2 || y.Rack.Last != 30 || y.Rack.Rounds != 16 {
		t.Error(y.Rack)
	}
	// Before Last is acknowledged Mult does not rise again.
	z, _ := hear(t, y, 101, told{ack: 29, win: 1000, blocks: []pair{{0, 10}}})
	if z.Rack.Mult != 2 || z.Rack.Last != 30 {
		t.Error(z.Rack)
	}
	if z, _ = hear(t, y, 101, told{ack: 30, win: 1000, blocks: []pair{{0, 10}}}); z.Rack.Mult != 3 || z.Rack.Last != 30 {
		t.Error(z.Rack)
	}
	if y, _ = hear(t, s, 100, told{ack: 10, win: 1000, blocks: []pair{{20, 30}}}); y.Rack.Mult != 1 || y.Rack.Rounds != 0 {
		t.Error("once:", y.Rack)
	}
	// The end's number counts in Top.
	if y, _ = hear(t, ended(t), 100, told{ack: 10, win: 1000, blocks: []pair{{0, 10}}}); y.Rack.Last != 16 {
		t.Error("the end:", y.Rack)
	}
}

func TestProbingEnds(t *testing.T) {
	s := flying(t, base(), 3)
	s.Probing = true
	if y, _ := hear(t, s, 100, told{ack: 0, win: 900, blocks: []pair{{20, 30}}}); !y.Probing {
		t.Error("nothing new")
	}
	if y, _ := hear(t, s, 100, told{ack: 1, win: 1000}); y.Probing {
		t.Error("something new")
	}
}

// P23.4, 6: loss is looked for

func TestLossBeginsRecovery(t *testing.T) {
	s := flying(t, base(), 4)
	y, o := hear(t, s, 100, told{ack: 0, win: 1000, blocks: []pair{{30, 40}}})
	if y.Phase != api.Recovery || y.High != 40 || y.Cc.Ssthresh != 20 || y.Cc.Cwnd != 50 {
		t.Errorf("%+v", y)
	}
	// PRR lets one segment go at first, and it went.
	if y.Prr != (api.Prr{Flight: 40, Out: 10}) || y.Quota != 0 {
		t.Error(y.Prr, y.Quota)
	}
	wantWent(t, o, sent{api.WhyAgain, 0, 10})
	if x := y.Recs; !x[0].Again || !x[0].Lost || !x[1].Lost || x[1].Again || !x[2].Lost || x[3].Lost {
		t.Error(x)
	}
	if at(y, api.TimReorder) != -1 || at(y, api.TimProbe) != -1 {
		t.Error(y.Timers)
	}
	// Top less Una, with what is gone left out, and the end's number counted.
	e := flying(t, base(), 4)
	e, _ = shut(t, e, 5)
	e, _ = hear(t, e, 5, told{ack: 10, win: 1000})
	y, _ = hear(t, e, 100, told{ack: 10, win: 1000, blocks: []pair{{30, 40}}})
	if y.Phase != api.Recovery || y.High != 41 || y.Prr.Flight != 31 {
		t.Error(y.Prr, y.High)
	}
}

// TestLossOfMuch: what is on its way may be far more than a segment has.
func TestLossOfMuch(t *testing.T) {
	c := base()
	c.Mss, c.Cap, c.Rcv, c.Shift, c.Burst = 30000, 1<<20, 1<<20, 5, 1<<20
	s := fresh(t, c)
	for i := range 4 {
		s, _ = write(t, s, i, 30000)
	}
	y, o := hear(t, s, 100, told{ack: 0, win: 1 << 15, blocks: []pair{{90000, 120000}}})
	wantWent(t, o, sent{api.WhyAgain, 0, 30000})
	if y.Prr.Flight != 120000 || y.Cc.Ssthresh != 60000 || y.High != 120000 {
		t.Error(y.Prr, y.Cc)
	}
	// All of three segments is delivered at once: a pipe of 30000, and up to 60000.
	if y, _ = hear(t, y, 200, told{ack: 90000, win: 1 << 15}); y.Prr.Given != 90000 || y.Quota != 60000 {
		t.Error(y.Prr, y.Quota)
	}
	z, _ := tick(t, set(s, due(api.TimResend)), 50)
	if z.Cc.Ssthresh != 60000 || z.Cc.Cwnd != 30000 {
		t.Error(z.Cc)
	}
}

func TestLossOfBbr(t *testing.T) {
	c := base()
	c.Cc = api.Bbr
	y, o := hear(t, flying(t, c, 4), 100, told{ack: 0, win: 1000, blocks: []pair{{30, 40}}})
	if y.Phase != api.Recovery || y.High != 40 || y.Cc.Cwnd != 50 || y.Quota != 10 || y.Prr != (api.Prr{Flight: 40}) {
		t.Errorf("%+v", y)
	}
	// Its window says how much goes, not PRR.
	wantWent(t, o, sent{api.WhyAgain, 0, 10}, sent{api.WhyAgain, 10, 20}, sent{api.WhyAgain, 20, 30})
	if y.Cc.Round != 0 {
		t.Error("told where a recovery begins:", y.Cc)
	}
}

// waiting answers a sender that has seen segments out of order, so that it waits a quarter of a round trip of 40.
func waiting(t *testing.T) api.Tcp {
	t.Helper()
	s := flying(t, base(), 4)
	s.Rack.Seen = true
	s.Low, s.Rtt.Srtt = []api.Entry{{At: 5, V: 40}}, 40
	return s
}

func TestTimReorder(t *testing.T) {
	y, o := hear(t, waiting(t), 100, told{ack: 0, win: 1000, blocks: []pair{{30, 40}}})
	if y.Phase != api.Open || at(y, api.TimReorder) != 109 {
		t.Error(y.Timers)
	}
	wantWent(t, o)
	// The first one is lost by then, and the others are not.
	z, _ := hear(t, y, 107, told{ack: 0, win: 999})
	if z.Phase != api.Recovery || !z.Recs[0].Lost || z.Recs[1].Lost || at(z, api.TimReorder) != 109 {
		t.Error(z.Recs, z.Timers)
	}
	// All come: there is nothing to wait for.
	if z, _ = hear(t, y, 107, told{ack: 30, win: 1000}); z.Phase != api.Open || at(z, api.TimReorder) != -1 {
		t.Error(z.Timers)
	}
	// The timer goes off.
	z, o = tick(t, y, 109)
	if z.Phase != api.Recovery || z.High != 40 || at(z, api.TimReorder) != -1 || !z.Recs[2].Lost {
		t.Error(z)
	}
	wantWent(t, o, sent{api.WhyAgain, 0, 10})
	z, o = tick(t, y, 108)
	if z.Phase != api.Open || at(z, api.TimReorder) != 109 {
		t.Error(z)
	}
	wantWent(t, o)
	// The wait is at most a smoothed round trip, and Mult parts of four.
	s := waiting(t)
	s.Rtt.Srtt = 4
	if y, _ = hear(t, s, 100, told{ack: 0, win: 1000, blocks: []pair{{30, 40}}}); at(y, api.TimReorder) != 103 {
		t.Error(y.Timers)
	}
	s = waiting(t)
	s.Rack.Mult = 2
	if y, _ = hear(t, s, 100, told{ack: 0, win: 1000, blocks: []pair{{30, 40}}}); at(y, api.TimReorder) != 119 {
		t.Error(y.Timers)
	}
}

// TestCalmReorder: as long as nothing came out of order, it waits in calm times alone, and with fewer than three sacked.
func TestCalmReorder(t *testing.T) {
	for _, x := range []struct {
		phase  api.Phase
		sacked pair
		lost   bool
	}{
		{api.Open, pair{30, 50}, false},
		{api.Open, pair{20, 50}, true},
		{api.Recovery, pair{40, 50}, true},
		{api.Loss, pair{40, 50}, true},
	} {
		s := flying(t, base(), 5)
		s.Low, s.Rtt.Srtt = []api.Entry{{At: 5, V: 40}}, 40
		s.Phase, s.High = x.phase, 50
		y, _ := hear(t, s, 100, told{ack: 0, win: 1000, blocks: []pair{x.sacked}})
		if y.Recs[0].Lost != x.lost {
			t.Error(x, y.Recs)
		}
	}
}

// TestLossElsewhere: in a recovery, and behind a timeout, what is lost begins nothing.
func TestLossElsewhere(t *testing.T) {
	for _, phase := range []api.Phase{api.Recovery, api.Loss} {
		s := flying(t, base(), 4)
		s.Phase, s.High, s.Prr = phase, 35, api.Prr{Flight: 30, Out: 10, Given: 5}
		s.Cc.Ssthresh = 20
		y, _ := hear(t, s, 100, told{ack: 0, win: 1000, blocks: []pair{{30, 40}}})
		if !y.Recs[0].Lost || y.Phase != phase || y.High != 35 || y.Prr.Flight != 30 || y.Cc.Ssthresh != 20 {
			t.Errorf("%+v", y)
		}
	}
}

// TestLostAgain: one that was sent again and is lost again counts; one that is lost already does not.
func TestLostAgain(t *testing.T) {
	s := flying(t, base(), 4)
	s.Recs[0].Lost, s.Recs[0].Again, s.Recs[0].Tx = true, true, 2
	s.Recs[1].Lost, s.Recs[2].Lost = true, true
	s.Cc.Cwnd = 10
	y, _ := hear(t, s, 100, told{ack: 0, win: 1000, blocks: []pair{{30, 40}}})
	if y.Phase != api.Recovery {
		t.Error("lost again:", y.Phase)
	}
	s.Recs[0].Sent = 50
	s.LastAt, s.Now = 50, 50
	y, _ = hear(t, s, 100, told{ack: 0, win: 1000, blocks: []pair{{30, 40}}})
	if y.Phase != api.Open || y.Recs[0].Tx != 2 {
		t.Error("lost ahead:", y.Phase, y.Recs)
	}
}

// P23.4, 7: by Phase

// recovering answers one in a recovery up to 20, with forty bytes on their way.
func recovering(t *testing.T, kind api.CcKind) api.Tcp {
	t.Helper()
	c := base()
	c.Cc = kind
	s := flying(t, c, 4)
	s.Phase, s.High, s.Quota = api.Recovery, 20, 3
	s.Prr = api.Prr{Flight: 40, Out: 1}
	if kind != api.Bbr {
		s.Cc.Ssthresh = 20
	}
	s.Rack.Rounds, s.Rack.Mult = 16, 3
	return s
}

func TestRecovery(t *testing.T) {
	for _, kind := range []api.CcKind{api.Reno, api.Cubic} {
		y, _ := hear(t, recovering(t, kind), 100, told{ack: 19, win: 1000})
		// Ten bytes of 40 were delivered, 21 are on their way: half of ten, and one was out.
		if y.Phase != api.Recovery || y.Quota != 4 || y.Prr != (api.Prr{Flight: 40, Out: 1, Given: 10}) || y.Cc.Cwnd != 50 || y.Rack.Rounds != 16 {
			t.Errorf("one below: %+v", y)
		}
		y, _ = hear(t, recovering(t, kind), 100, told{ack: 20, win: 1000})
		if y.Phase != api.Open || y.Quota != 0 || y.Prr.Given != 0 || y.Cc.Cwnd != 20 || y.Rack.Rounds != 15 || y.Rack.Mult != 3 {
			t.Errorf("at it: %+v", y)
		}
		y, _ = hear(t, recovering(t, kind), 100, told{ack: 0, win: 999})
		// Nothing was delivered: nothing more may go.
		if y.Phase != api.Recovery || y.Quota != 0 || y.Cc.Cwnd != 50 {
			t.Errorf("nothing new: %+v", y)
		}
	}
}

func TestRecoveryOfBbr(t *testing.T) {
	y, _ := hear(t, recovering(t, api.Bbr), 100, told{ack: 19, win: 1000})
	if y.Phase != api.Recovery || y.Quota != 20 || y.Cc.Round != 1 || y.Cc.Cwnd != 50 {
		t.Errorf("one below: %+v", y)
	}
	y, _ = hear(t, recovering(t, api.Bbr), 100, told{ack: 20, win: 1000})
	if y.Phase != api.Open || y.Quota != 0 || y.Cc.Round != 1 || y.Cc.Cwnd != 50 || y.Rack.Rounds != 15 {
		t.Errorf("at it: %+v", y)
	}
	// In either case, and of nothing, too.
	y, _ = hear(t, recovering(t, api.Bbr), 100, told{ack: 0, win: 999})
	if y.Phase != api.Recovery || y.Cc.Round != 1 || y.Cc.Cwnd != 50 {
		t.Errorf("nothing new: %+v", y)
	}
}

// TestSafe: below Ssthresh a segment more may go, if something new came and nothing was lost. The pipe is what it is
// behind what was lost.
func TestSafe(t *testing.T) {
	s := recovering(t, api.Reno)
	s.Cc.Ssthresh, s.High = 100, 40
	y, _ := hear(t, s, 100, told{ack: 10, win: 1000})
	if y.Quota != 20 {
		t.Error("safe:", y.Quota)
	}
	if y, _ = hear(t, s, 100, told{ack: 0, win: 999, blocks: []pair{{0, 10}}}); y.Quota != 10 {
		t.Error("not Ahead:", y.Quota)
	}
	// Two were delivered (20), and the second one is lost by it. It goes again, and leaves ten.
	y, o := hear(t, s, 100, told{ack: 10, win: 1000, blocks: []pair{{20, 30}}})
	wantWent(t, o, sent{api.WhyAgain, 10, 20})
	if y.Quota != 10 {
		t.Error("lost:", y.Quota)
	}
	// 20 less the pipe of 10 (ahead of it 20) is less than what was delivered.
	s.Cc.Ssthresh = 20
	y, o = hear(t, s, 100, told{ack: 10, win: 1000, blocks: []pair{{20, 30}}})
	wantWent(t, o, sent{api.WhyAgain, 10, 20})
	if y.Quota != 0 || y.Prr.Out != 11 {
		t.Error("the pipe:", y.Quota, y.Prr)
	}
}

func TestOpen(t *testing.T) {
	y, _ := hear(t, flying(t, base(), 3), 100, told{ack: 10, win: 1000})
	if y.Phase != api.Open || y.Cc.Cwnd != 60 || y.Cc.Acc != 0 {
		t.Error("Reno:", y.Cc)
	}
	c := base()
	c.Cc = api.Bbr
	for _, x := range []struct {
		ack    int
		blocks []pair
		round  int
	}{{0, nil, 0}, {5, nil, 0}, {10, nil, 1}, {0, []pair{{0, 10}}, 1}} {
		if y, _ = hear(t, flying(t, c, 3), 100, told{ack: x.ack, win: 999, blocks: x.blocks}); y.Cc.Round != x.round {
			t.Error("BBR:", x, y.Cc)
		}
	}
	// Cubic goes by srtt, as it is behind the time.
	c.Cc = api.Cubic
	s := flying(t, c, 1)
	s.Cc.Ssthresh, s.Cc.Wmax = 20, 50
	if y, _ = hear(t, s, 3000000, told{ack: 10, win: 1000}); y.Cc.Epoch != 3000000 || y.Cc.Cwnd != 55 {
		t.Error("Cubic:", y.Cc)
	}
}

func TestLossPhase(t *testing.T) {
	for _, kind := range []api.CcKind{api.Reno, api.Cubic, api.Bbr} {
		c := base()
		c.Cc = kind
		s := flying(t, c, 3)
		s.Phase, s.High, s.Rack.Rounds, s.Quota = api.Loss, 25, 16, 7
		y, _ := hear(t, s, 100, told{ack: 24, win: 1000})
		if y.Phase != api.Loss || y.Rack.Rounds != 16 || y.Cc.Round != 1 && kind == api.Bbr || y.Quota != 7 {
			t.Errorf("one below: %+v", y)
		}
		y, _ = hear(t, s, 100, told{ack: 25, win: 1000})
		if y.Phase != api.Open || y.Rack.Rounds != 15 || y.Quota != 7 {
			t.Errorf("at it: %+v", y)
		}
		// Nothing was delivered: the controller does not know.
		s.High = 0
		if y, _ = hear(t, s, 100, told{ack: 0, win: 999}); y.Phase != api.Open || y.Cc.Round != 0 {
			t.Errorf("nothing new: %+v", y)
		}
	}
	s := flying(t, base(), 3)
	s.Phase, s.High, s.Cc.Cwnd, s.Cc.Ssthresh = api.Loss, 25, 30, 40
	if y, _ := hear(t, s, 100, told{ack: 10, win: 1000}); y.Cc.Cwnd != 40 {
		t.Error("Reno:", y.Cc)
	}
	s.High = 10
	if y, _ := hear(t, s, 100, told{ack: 10, win: 1000}); y.Cc.Cwnd != 40 || y.Phase != api.Open {
		t.Error("Reno, at High:", y.Cc)
	}
}

// P23.4, 8: the pacer

func TestPacerTold(t *testing.T) {
	s := flying(t, base(), 1)
	s.Pacer.Tokens, s.Pacer.Rate = 0, 7
	y, _ := hear(t, s, 100, told{ack: 10, win: 1000})
	if y.Pacer != (api.Pacer{Rate: 1200000, Burst: 20, Tokens: 700, Last: 100}) {
		t.Error(y.Pacer)
	}
	s.Config.Floor = 1 << 40
	if y, _ = hear(t, s, 100, told{ack: 10, win: 1000}); y.Pacer.Rate != 1<<40 {
		t.Error("the floor:", y.Pacer)
	}
	// Of nothing new, too.
	s.Config.Floor = 1
	if y, _ = hear(t, s, 100, told{ack: 0, win: 999}); y.Pacer != (api.Pacer{Rate: 100000, Burst: 20, Tokens: 700, Last: 100}) {
		t.Error("nothing new:", y.Pacer)
	}
}
