package sender_test

import (
	"bytes"
	"testing"

	"tideway/api"
	"tideway/sender"
	"tideway/wire"
)

// P23.6: what goes

// lossy answers one of five segments on their way, of which the first and the third are lost, with n bytes that wait.
func lossy(t *testing.T, phase api.Phase, n int) api.Tcp {
	t.Helper()
	s := flying(t, base(), 5)
	s, _ = write(t, s, 5, n)
	s.Recs[0].Lost, s.Recs[2].Lost = true, true
	s.Phase, s.High, s.Quota, s.Cc.Cwnd = phase, 50, 0, 30
	return s
}

// roomOf sets how much may go, in a phase: Quota in a recovery, else beside the pipe of 30.
func roomOf(s api.Tcp, room int) api.Tcp {
	s = copied(s)
	if s.Phase == api.Recovery {
		s.Quota = room
	} else {
		s.Cc.Cwnd = 30 + room
	}
	return s
}

func TestLostFirst(t *testing.T) {
	for _, phase := range []api.Phase{api.Open, api.Recovery, api.Loss} {
		s := lossy(t, phase, 15)
		for room, want := range map[int][]sent{
			0: nil, 9: nil,
			10: {{api.WhyAgain, 0, 10}}, 11: {{api.WhyAgain, 0, 10}}, 19: {{api.WhyAgain, 0, 10}},
			20: {{api.WhyAgain, 0, 10}, {api.WhyAgain, 20, 30}},
			// Ten bytes may go of what is new, and not five that are not all of it.
			29: {{api.WhyAgain, 0, 10}, {api.WhyAgain, 20, 30}},
			30: {{api.WhyAgain, 0, 10}, {api.WhyAgain, 20, 30}, {api.WhyNew, 50, 60}},
			34: {{api.WhyAgain, 0, 10}, {api.WhyAgain, 20, 30}, {api.WhyNew, 50, 60}},
			35: {{api.WhyAgain, 0, 10}, {api.WhyAgain, 20, 30}, {api.WhyNew, 50, 60}, {api.WhyNew, 60, 65}},
			99: {{api.WhyAgain, 0, 10}, {api.WhyAgain, 20, 30}, {api.WhyNew, 50, 60}, {api.WhyNew, 60, 65}},
		} {
			y, o := tick(t, roomOf(s, room), 10)
			wantWent(t, o, want...)
			left := room
			for _, x := range want {
				left -= x.to - x.from
			}
			if phase == api.Recovery && (y.Quota != left || y.Prr.Out != room-left) {
				t.Error(room, y.Quota, y.Prr)
			}
			if phase != api.Recovery && (y.Quota != 0 || y.Prr.Out != 0) {
				t.Error(phase, room, y.Quota, y.Prr)
			}
		}
	}
}

// TestNothingNewAhead: where what is lost may not go, nothing new goes either, though it is smaller.
func TestNothingNewAhead(t *testing.T) {
	s := roomOf(lossy(t, api.Loss, 3), 9)
	_, o := tick(t, s, 10)
	wantWent(t, o)
	s.Recs[0].Lost, s.Recs[2].Lost = false, false
	s.Cc.Cwnd += 20
	_, o = tick(t, s, 10)
	wantWent(t, o, sent{api.WhyNew, 50, 53})
}

// TestBbrInRecovery: its window says how much goes, not Quota.
func TestBbrInRecovery(t *testing.T) {
	c := base()
	c.Cc = api.Bbr
	s, _ := write(t, flying(t, c, 5), 5, 20)
	s.Recs[0].Lost = true
	s.Phase, s.High, s.Quota, s.Cc.Cwnd = api.Recovery, 50, 3, 49
	_, o := tick(t, s, 10)
	wantWent(t, o)
	s.Cc.Cwnd = 50
	y, o := tick(t, s, 10)
	wantWent(t, o, sent{api.WhyAgain, 0, 10})
	if y.Quota != 3 || y.Prr.Out != 0 {
		t.Error(y.Quota, y.Prr)
	}
	s.Cc.Cwnd = 60
	_, o = tick(t, s, 10)
	wantWent(t, o, sent{api.WhyAgain, 0, 10}, sent{api.WhyNew, 50, 60})
	s.Cc.Cwnd, s.Quota = 49, 100
	_, o = tick(t, s, 10)
	wantWent(t, o)
}

// TestPipeOfNothing: where nothing is on its way, what is lost goes whatever room there is, but in a recovery by PRR.
func TestPipeOfNothing(t *testing.T) {
	for _, kind := range []api.CcKind{api.Reno, api.Cubic, api.Bbr} {
		for _, phase := range []api.Phase{api.Open, api.Recovery, api.Loss} {
			c := base()
			c.Cc = kind
			s := flying(t, c, 3)
			for i := range s.Recs {
				s.Recs[i].Lost = true
			}
			// A record may be larger than a window by the end's number.
			s.Ring.Closed, s.FinSent, s.Recs[2].Fin, s.Recs[2].To = true, true, true, 31
			s.Recs[0].Lost, s.Recs[1].Lost, s.Recs[0].Sacked, s.Recs[1].Sacked = false, false, true, true
			s.Phase, s.High, s.Quota, s.Cc.Cwnd = phase, 30, 10, 10
			_, o := tick(t, s, 10)
			if phase == api.Recovery && kind != api.Bbr {
				wantWent(t, o)
			} else {
				wantWent(t, o, sent{api.WhyAgain, 20, 31})
			}
			// With something on its way it waits for room.
			s.Recs[0].Sacked = false
			_, o = tick(t, s, 10)
			wantWent(t, o)
		}
	}
}

func TestRoomOfNew(t *testing.T) {
	for cwnd, want := range map[int][]sent{
		39: nil,
		40: {{api.WhyNew, 30, 40}},
		49: {{api.WhyNew, 30, 40}},
		50: {{api.WhyNew, 30, 40}, {api.WhyNew, 40, 50}},
		56: {{api.WhyNew, 30, 40}, {api.WhyNew, 40, 50}},
		57: {{api.WhyNew, 30, 40}, {api.WhyNew, 40, 50}, {api.WhyNew, 50, 57}},
		20: nil,
	} {
		s := flying(t, base(), 3)
		s.Cc.Cwnd = cwnd
		_, o := write(t, s, 10, 27)
		wantWent(t, o, want...)
	}
}

// TestEdge: new data go no further than the peer has room by now.
func TestEdge(t *testing.T) {
	for size, want := range map[int][]sent{
		0: nil, 29: nil, 30: nil, 31: nil, 39: nil,
		40: {{api.WhyNew, 30, 40}},
		49: {{api.WhyNew, 30, 40}},
		50: {{api.WhyNew, 30, 40}, {api.WhyNew, 40, 50}},
	} {
		s := flying(t, base(), 3)
		s.Window.Size = size
		_, o := write(t, s, 10, 20)
		wantWent(t, o, want...)
	}
	// Half of the greatest window is enough.
	for most, want := range map[int][]sent{10: {{api.WhyNew, 30, 35}}, 11: nil} {
		s := flying(t, base(), 3)
		s.Window.Wl2, s.Window.Size, s.Window.Most = 30, 5, most
		_, o := write(t, s, 10, 20)
		wantWent(t, o, want...)
	}
	c := base()
	c.Rcv = 15
	_, o := write(t, fresh(t, c), 0, 20)
	wantWent(t, o, sent{api.WhyNew, 0, 10})
	c.Rcv = 9
	_, o = write(t, fresh(t, c), 0, 20)
	wantWent(t, o, sent{api.WhyNew, 0, 9})
}

func TestNagle(t *testing.T) {
	c := base()
	c.Nagle = true
	s, o := write(t, fresh(t, c), 0, 3)
	wantWent(t, o, sent{api.WhyNew, 0, 3})
	s, o = write(t, s, 1, 3)
	wantWent(t, o)
	y, o := hear(t, s, 100, told{ack: 3, win: 1000})
	wantWent(t, o, sent{api.WhyNew, 3, 6})
	s, o = write(t, s, 1, 8)
	wantWent(t, o, sent{api.WhyNew, 3, 13})
	_, o = shut(t, s, 2)
	wantWent(t, o, sent{api.WhyNew, 13, 15})
	c.Nagle = false
	s, _ = write(t, fresh(t, c), 0, 3)
	_, o = write(t, s, 1, 3)
	wantWent(t, o, sent{api.WhyNew, 3, 6})
	if sender.Una(y) != 3 {
		t.Error(y)
	}
}

// full answers one of so many records of one byte each, and more to send, with room for it.
func full(t *testing.T, n int) api.Tcp {
	t.Helper()
	c := base()
	c.Cap, c.Rcv, c.Shift = 1<<20, 1<<20, 8
	s := fresh(t, c)
	s.Ring.Data = make([]byte, n+25)
	s.Next, s.Cc.Cwnd = n, 1<<20
	for i := range n {
		s.Recs = append(s.Recs, api.Rec{From: i, To: i + 1, Tx: 1})
	}
	return s
}

func TestMaxRecs(t *testing.T) {
	t.Parallel()
	s := full(t, 65536)
	y, o := tick(t, s, 1)
	wantWent(t, o)
	if y.Next != 65536 || len(y.Recs) != 65536 {
		t.Error(y.Next, len(y.Recs))
	}
	// A probe is of the last one, then.
	y, o = tick(t, set(s, due(api.TimProbe)), 50)
	wantWent(t, o, sent{api.WhyProbe, 65535, 65536})
	if y.Next != 65536 || !y.Probing {
		t.Error(y.Next)
	}
	// What is lost goes nevertheless.
	s.Recs[0].Lost = true
	_, o = tick(t, s, 1)
	wantWent(t, o, sent{api.WhyAgain, 0, 1})
	y, o = tick(t, full(t, 65535), 1)
	wantWent(t, o, sent{api.WhyNew, 65535, 65545})
	if len(y.Recs) != 65536 {
		t.Error(len(y.Recs))
	}
	_, o = tick(t, set(full(t, 65535), due(api.TimProbe)), 50)
	wantWent(t, o, sent{api.WhyProbe, 65535, 65545})
	y, o = hear(t, full(t, 65536), 50, told{ack: 2, win: 4096})
	wantWent(t, o, sent{api.WhyNew, 65536, 65546}, sent{api.WhyNew, 65546, 65556})
	if len(y.Recs) != 65536 {
		t.Error(len(y.Recs))
	}
}

// TestManyAtOnce: one step may send very many.
func TestManyAtOnce(t *testing.T) {
	t.Parallel()
	c := base()
	c.Mss, c.Cap, c.Rcv, c.Shift = 8, 1<<20, 1<<20, 8
	s := fresh(t, c)
	s.Cc.Cwnd = 1 << 20
	y, o := sender.Step(s, api.In{Kind: api.InWrite, Data: make([]byte, 600000)})
	if len(o.Sent) != 65536 || y.Next != 8*65536 || sender.Check(y) != api.OK {
		t.Error(len(o.Sent), y.Next)
	}
	for i, x := range o.Sent {
		if x.From != 8*i || x.To != 8*i+8 || x.Pipe != 8*i {
			t.Fatal(i, x)
		}
	}
}

// P23.6: Rest

func TestRest(t *testing.T) {
	c := base()
	c.First, c.Cap, c.Rcv = 2, 2000, 2000
	rested := func(c api.Config, now int) (api.Tcp, api.Out) {
		s := fresh(t, c)
		s.Cc.Cwnd, s.Now, s.LastAt, s.Rtt.Rto = 400, 7, 7, 1000
		return write(t, s, now, 1000)
	}
	y, o := rested(c, 1007)
	if y.Cc.Cwnd != 400 || len(o.Sent) != 40 || y.Cc.Ssthresh != 1<<30 {
		t.Error("just Rto:", y.Cc, len(o.Sent))
	}
	y, o = rested(c, 1008)
	if y.Cc.Cwnd != 200 || len(o.Sent) != 20 || o.Sent[0].Cwnd != 200 {
		t.Error("one more:", y.Cc, len(o.Sent))
	}
	if y, o = rested(c, 3007); y.Cc.Cwnd != 50 || len(o.Sent) != 5 {
		t.Error("three:", y.Cc, len(o.Sent))
	}
	if y, o = rested(c, 1<<40); y.Cc.Cwnd != 20 || len(o.Sent) != 2 {
		t.Error("First times Mss:", y.Cc, len(o.Sent))
	}
	c.First = 30
	if y, o = rested(c, 1<<40); y.Cc.Cwnd != 300 || len(o.Sent) != 30 {
		t.Error("First times Mss:", y.Cc, len(o.Sent))
	}
	c.Cc = api.Bbr
	if y, _ = rested(c, 1<<40); y.Cc.Cwnd != 400 {
		t.Error("BBR:", y.Cc)
	}
}

// TestNoRest: with Recs, or without anything to send, nothing is rested of.
func TestNoRest(t *testing.T) {
	c := base()
	c.First = 2
	s := fresh(t, c)
	s.Cc.Cwnd = 400
	y, _ := tick(t, s, 1<<40)
	if y.Cc.Cwnd != 400 {
		t.Error("nothing to send:", y.Cc)
	}
	y, _ = shut(t, s, 1<<40)
	if y.Cc.Cwnd != 20 || !y.FinSent {
		t.Error("the end alone:", y.Cc)
	}
	f := flying(t, c, 3)
	f.Cc.Cwnd, f.Timers = 400, nil
	if y, _ = write(t, f, 1<<40, 10); y.Cc.Cwnd != 400 {
		t.Error("with Recs:", y.Cc)
	}
	// Ahead of a window without room, too: there is something to send.
	f, _ = hear(t, s, 1, told{ack: 0, win: 0})
	if y, _ = write(t, f, 1<<40, 10); y.Cc.Cwnd != 20 {
		t.Error("a shut window:", y.Cc)
	}
}

// P23.6: Pace

// paced answers one with Pace, and so many tokens.
func paced(t *testing.T, tokens int) api.Tcp {
	t.Helper()
	c := base()
	c.Pace = true
	s := fresh(t, c)
	s.Pacer = api.Pacer{Rate: 3, Burst: 20, Tokens: tokens, Last: 0}
	return s
}

func TestPace(t *testing.T) {
	// A full bucket lets two go, and owes nothing then.
	s, o := write(t, paced(t, 20000000), 0, 30)
	wantWent(t, o, sent{api.WhyNew, 0, 10}, sent{api.WhyNew, 10, 20})
	if s.Pacer.Tokens != 0 || at(s, api.TimPace) != 3333334 {
		t.Error(s.Pacer, s.Timers)
	}
	// It is filled first.
	s, o = write(t, paced(t, 9999998), 1, 30)
	wantWent(t, o, sent{api.WhyNew, 0, 10})
	if s.Pacer.Tokens != 1 || s.Pacer.Last != 1 || at(s, api.TimPace) != 1+3333333 {
		t.Error(s.Pacer, s.Timers)
	}
	s, o = write(t, paced(t, 9999996), 1, 30)
	wantWent(t, o)
	if s.Pacer.Tokens != 9999999 || at(s, api.TimPace) != 2 || at(s, api.TimPersist) != -1 || s.Next != 0 {
		t.Error(s.Pacer, s.Timers)
	}
	// Without Pace nobody asks it, and nothing is taken.
	s = paced(t, 5)
	s.Config.Pace = false
	s, o = write(t, s, 1, 30)
	wantWent(t, o, sent{api.WhyNew, 0, 10}, sent{api.WhyNew, 10, 20}, sent{api.WhyNew, 20, 30})
	if s.Pacer.Tokens != 5 || s.Pacer.Last != 0 || at(s, api.TimPace) != -1 {
		t.Error(s.Pacer, s.Timers)
	}
}

// TestPaceOfLost: what is lost waits, too, and nothing new goes ahead of it. The controller, Quota and PRR do not know.
func TestPaceOfLost(t *testing.T) {
	s := roomOf(lossy(t, api.Recovery, 3), 30)
	s.Config.Pace = true
	s.Pacer = api.Pacer{Rate: 1000000, Burst: 20, Tokens: 9000000, Last: 10}
	y, o := tick(t, s, 10)
	wantWent(t, o)
	if at(y, api.TimPace) != 11 || y.Quota != 30 || y.Prr.Out != 0 || y.Recs[0].Again {
		t.Error(y.Timers, y.Quota, y.Prr)
	}
	y, o = tick(t, y, 11)
	wantWent(t, o, sent{api.WhyAgain, 0, 10})
	if at(y, api.TimPace) != 21 || y.Quota != 20 || y.Prr.Out != 10 || y.Pacer.Tokens != 0 {
		t.Error(y.Timers, y.Quota, y.Prr, y.Pacer)
	}
}

// TestPaceOfEnd: the end's number counts as a byte, as in a record.
func TestPaceOfEnd(t *testing.T) {
	s := paced(t, 5000000)
	s, _ = write(t, s, 0, 5)
	s, o := shut(t, s, 0)
	wantWent(t, o)
	if at(s, api.TimPace) != 333334 {
		t.Error(s.Timers)
	}
	y, o := tick(t, s, 333334)
	wantWent(t, o, sent{api.WhyNew, 5, 6})
	if y.Pacer.Tokens != 2 {
		t.Error(y.Pacer)
	}
	// A segment and the end are one more than a burst: a full bucket lets them go.
	c := base()
	c.Pace, c.Burst = true, 10
	s, _ = write(t, fresh(t, c), 0, 1)
	s.Ring.Data = append(s.Ring.Data, 1, 2, 3, 4, 5, 6, 7, 8, 9, 10)
	s.Ring.Closed = true
	s.Pacer.Rate = 1000000
	y, o = tick(t, s, 0)
	wantWent(t, o)
	if at(y, api.TimPace) != 1 {
		t.Error(y.Timers)
	}
	y, o = tick(t, y, 1)
	wantWent(t, o, sent{api.WhyNew, 1, 12})
	if y.Pacer.Tokens != -1000000 {
		t.Error(y.Pacer)
	}
}

// P23.6: Quota

func TestQuota(t *testing.T) {
	recovery := func(quota int, bytes int) (api.Tcp, api.Out) {
		s := flying(t, base(), 3)
		s.Phase, s.High, s.Quota, s.Prr = api.Recovery, 30, quota, api.Prr{Flight: 30, Out: 5}
		return write(t, s, 10, bytes)
	}
	y, o := recovery(25, 27)
	wantWent(t, o, sent{api.WhyNew, 30, 40}, sent{api.WhyNew, 40, 50})
	if y.Quota != 5 || y.Prr.Out != 25 {
		t.Error(y.Quota, y.Prr)
	}
	y, o = recovery(7, 7)
	wantWent(t, o, sent{api.WhyNew, 30, 37})
	if y.Quota != 0 || y.Prr.Out != 12 {
		t.Error(y.Quota, y.Prr)
	}
	_, o = recovery(6, 7)
	wantWent(t, o)
	// The end goes with the last byte, beyond Quota by one: it is at least 0.
	s := flying(t, base(), 3)
	s.Phase, s.High, s.Quota = api.Recovery, 30, 4
	s.Ring.Data, s.Ring.Closed = append(s.Ring.Data, 1, 2, 3, 4), true
	y, o = tick(t, s, 10)
	wantWent(t, o, sent{api.WhyNew, 30, 35})
	if y.Quota != 0 || y.Prr.Out != 5 {
		t.Error(y.Quota, y.Prr)
	}
	// In another phase it does not matter, and stays.
	s = flying(t, base(), 3)
	s.Quota = 3
	if y, o = write(t, s, 10, 10); y.Quota != 3 || len(o.Sent) != 1 || y.Prr.Out != 0 {
		t.Error(y.Quota, o)
	}
}

// P23.6: Idle

func TestIdle(t *testing.T) {
	y, _ := tick(t, fresh(t, base()), 5)
	if y.Rate.IdleTo != 1 {
		t.Error("nothing was ever written:", y.Rate)
	}
	if y, _ = write(t, fresh(t, base()), 5, 49); y.Rate.IdleTo != 49 || y.Recs[4].Idle {
		t.Error("all goes, with room left:", y.Rate)
	}
	if y, _ = write(t, fresh(t, base()), 5, 50); y.Rate.IdleTo != 0 {
		t.Error("all goes, with no room left:", y.Rate)
	}
	if y, _ = write(t, fresh(t, base()), 5, 51); y.Rate.IdleTo != 0 {
		t.Error("more than goes:", y.Rate)
	}
	// Where something waits for the pacer, all the same.
	s := roomOf(lossy(t, api.Loss, 0), 30)
	s.Rate.IdleTo, s.Rate.Given = 0, 100
	s.Config.Pace, s.Pacer.Tokens = true, 0
	if y, o := tick(t, s, 6); len(o.Sent) != 0 || y.Rate.IdleTo != 130 {
		t.Error("what is lost waits:", y.Rate)
	}
	c := base()
	c.Rcv = 15
	if y, _ = write(t, fresh(t, c), 0, 20); y.Rate.IdleTo != 0 {
		t.Error("the peer has no room:", y.Rate)
	}
	// The end alone does not count.
	s = shutWindow(t, 0)
	s.Rate.IdleTo = 0
	if y, _ = shut(t, s, 9); y.Rate.IdleTo != 1 || y.FinSent {
		t.Error("the end waits:", y.Rate)
	}
}

// P23.6: how a segment is sent

// read reads what was sent.
func read(t *testing.T, x api.Sent) api.Segment {
	t.Helper()
	s, e := wire.Get(x.Data, 1, 2)
	if e != api.OK {
		t.Fatal(x, e)
	}
	return s
}

func TestSegment(t *testing.T) {
	s := fresh(t, base())
	s.Peer = 3
	s, o := write(t, s, 0, 25)
	for i, want := range []struct {
		seq   uint32
		flags int
		data  string
	}{
		{4294967290, api.Ack, "\x00\x01\x02\x03\x04\x05\x06\x07\x08\x09"},
		{4, api.Ack, "\x0a\x0b\x0c\x0d\x0e\x0f\x10\x11\x12\x13"},
		{14, api.Ack | api.Psh, "\x14\x15\x16\x17\x18"},
	} {
		x := read(t, o.Sent[i])
		if x.SrcPort != 1 || x.DstPort != 2 || x.Seq != want.seq || x.Ack != 2 || x.Flags != want.flags || x.Win != 65535 || string(x.Data) != want.data {
			t.Errorf("%+v", x)
		}
		if x.Urg != 0 || x.Mss != -1 || x.Scale != -1 || x.SackOk || x.Stamped || len(x.Sacks) != 0 || len(o.Sent[i].Data) != 20+len(want.data) {
			t.Errorf("%+v", x)
		}
	}
	// The end alone, and the end with bytes.
	s, o = shut(t, s, 1)
	if x := read(t, o.Sent[0]); x.Seq != 19 || x.Flags != api.Ack|api.Fin || len(x.Data) != 0 {
		t.Errorf("%+v", x)
	}
	z := shutWindow(t, 5)
	z, _ = shut(t, z, 3)
	_, o = hear(t, z, 4, told{ack: 0, win: 1000})
	if x := read(t, o.Sent[0]); x.Seq != 4294967290 || x.Flags != api.Ack|api.Fin|api.Psh || len(x.Data) != 5 {
		t.Errorf("%+v", x)
	}
	// The peer has no room for the end's number: bytes alone.
	_, o = hear(t, z, 4, told{ack: 0, win: 5})
	if x := read(t, o.Sent[0]); x.Flags != api.Ack|api.Psh || len(x.Data) != 5 {
		t.Errorf("%+v", x)
	}
	if s.Recent != 0 {
		t.Error(s.Recent)
	}
}

func TestSegmentStamps(t *testing.T) {
	s := fresh(t, stamped())
	s.Recent = 77
	_, o := write(t, s, 5<<32+9, 10)
	if x := read(t, o.Sent[0]); !x.Stamped || x.Val != 9 || x.Ecr != 77 || len(o.Sent[0].Data) != 42 {
		t.Errorf("%+v", x)
	}
}

// TestSegmentAgain: what is sent again has the same bytes, its flags as they are by then, and new stamps.
func TestSegmentAgain(t *testing.T) {
	s, _ := write(t, fresh(t, stamped()), 0, 15)
	s.Recs[0].Lost, s.Recs[1].Lost = true, true
	s.Recent = 5
	_, o := tick(t, s, 9)
	a, b := read(t, o.Sent[0]), read(t, o.Sent[1])
	if a.Flags != api.Ack || b.Flags != api.Ack|api.Psh || a.Val != 9 || a.Ecr != 5 || !bytes.Equal(a.Data, s.Ring.Data[:10]) || !bytes.Equal(b.Data, s.Ring.Data[10:]) {
		t.Errorf("%+v %+v", a, b)
	}
	y, o := write(t, s, 9, 3)
	if b = read(t, o.Sent[1]); b.Flags != api.Ack || len(b.Data) != 5 {
		t.Errorf("more was written: %+v", b)
	}
	// The end, with bytes and alone.
	y, _ = shut(t, y, 10)
	for i := range y.Recs {
		y.Recs[i].Lost, y.Recs[i].Again = true, false
	}
	y.Cc.Cwnd = 100
	_, o = tick(t, y, 11)
	last := o.Sent[len(o.Sent)-1]
	if x := read(t, last); x.Flags != api.Ack|api.Fin || len(x.Data) != 0 || last.From != 18 || last.To != 19 {
		t.Errorf("the end: %+v", x)
	}
	z, _ := hear(t, shutWindow(t, 5), 4, told{ack: 0, win: 0})
	z, _ = shut(t, z, 5)
	z, _ = hear(t, z, 6, told{ack: 0, win: 100})
	z.Recs[0].Lost = true
	_, o = tick(t, z, 11)
	if x := read(t, o.Sent[0]); x.Flags != api.Ack|api.Fin|api.Psh || len(x.Data) != 5 || o.Sent[0].To != 6 {
		t.Errorf("with bytes: %+v", x)
	}
	// A part of it was acknowledged.
	z, o = hear(t, z, 12, told{ack: 3, win: 100})
	if x := read(t, o.Sent[0]); x.Flags != api.Ack|api.Fin|api.Psh || !bytes.Equal(x.Data, []byte{3, 4}) || x.Seq != 4294967293 {
		t.Errorf("a part: %+v", x)
	}
}

func TestRecordOfNew(t *testing.T) {
	s := fresh(t, base())
	s.Rate = api.Rate{Given: 100, GivenAt: 5, FirstAt: 3, IdleTo: 200}
	y, _ := write(t, s, 50, 15)
	// Nothing was on its way ahead of the first one: the sampler's times begin there.
	for i, want := range []api.Rec{
		{From: 0, To: 10, Sent: 50, Tx: 1, Given: 100, GivenAt: 50, FirstAt: 50, Idle: true},
		{From: 10, To: 15, Sent: 50, Tx: 1, Given: 100, GivenAt: 50, FirstAt: 50, Idle: true},
	} {
		if y.Recs[i] != want {
			t.Errorf("%+v", y.Recs[i])
		}
	}
	if y.Rate.GivenAt != 50 || y.Rate.FirstAt != 50 || y.LastAt != 50 || y.Next != 15 || y.FinSent {
		t.Error(y.Rate, y.LastAt, y.Next)
	}
	y, _ = shut(t, y, 60)
	if x := y.Recs[2]; x != (api.Rec{From: 15, To: 16, Fin: true, Sent: 60, Tx: 1, Given: 100, GivenAt: 50, FirstAt: 50, Idle: true}) {
		t.Errorf("%+v", x)
	}
	if y.Next != 15 || !y.FinSent || y.LastAt != 60 {
		t.Error(y.Next, y.FinSent)
	}
}

func TestRecordOfAgain(t *testing.T) {
	s := flying(t, base(), 3)
	s.Rate = api.Rate{Given: 100, GivenAt: 5, FirstAt: 3}
	s.Recs[1].Lost = true
	y, _ := tick(t, s, 50)
	if x := y.Recs[1]; x != (api.Rec{From: 10, To: 20, Sent: 50, Tx: 2, Lost: true, Again: true, Given: 100, GivenAt: 5, FirstAt: 3}) {
		t.Errorf("%+v", x)
	}
	if y.LastAt != 50 || y.Next != 30 || y.Rate.FirstAt != 3 {
		t.Error(y.LastAt, y.Next)
	}
	// Where nothing is on its way, the sampler's times begin there: it is not counted itself.
	for i := range s.Recs {
		s.Recs[i].Lost = true
	}
	s.Cc.Cwnd = 20
	y, _ = tick(t, s, 50)
	if x := y.Recs[0]; x != (api.Rec{From: 0, To: 10, Sent: 50, Tx: 2, Lost: true, Again: true, Given: 100, GivenAt: 50, FirstAt: 50}) {
		t.Errorf("%+v", x)
	}
	if x := y.Recs[1]; !x.Again || x.GivenAt != 50 || y.Recs[2].Again {
		t.Errorf("%+v", x)
	}
}

// TestOutSent: the pipe, Cwnd and the window's right edge are those ahead of it.
func TestOutSent(t *testing.T) {
	s := flying(t, base(), 2)
	s, _ = hear(t, s, 50, told{ack: 5, win: 900})
	s.Recs[1].Lost = true
	_, o := write(t, s, 60, 12)
	if len(o.Sent) != 3 {
		t.Fatal(o)
	}
	for i, want := range []api.Sent{
		{Why: api.WhyAgain, From: 10, To: 20, Pipe: 5, Cwnd: 50, Edge: 905},
		{Why: api.WhyNew, From: 20, To: 30, Pipe: 15, Cwnd: 50, Edge: 905},
		{Why: api.WhyNew, From: 30, To: 32, Pipe: 25, Cwnd: 50, Edge: 905},
	} {
		x := o.Sent[i]
		if len(x.Data) != 20+x.To-x.From {
			t.Error(x)
		}
		x.Data = nil
		if x.Why != want.Why || x.From != want.From || x.To != want.To || x.Pipe != want.Pipe || x.Cwnd != want.Cwnd || x.Edge != want.Edge {
			t.Errorf("%+v", x)
		}
	}
}
