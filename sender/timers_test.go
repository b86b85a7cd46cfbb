package sender_test

import (
	"slices"
	"testing"

	"tideway/api"
	"tideway/sender"
)

// P23.5

// set answers a sender of which these timers run, and no others.
func set(s api.Tcp, l ...api.Timer) api.Tcp {
	s = copied(s)
	s.Timers = l
	return s
}

// due answers a timer that goes off at 50.
func due(kind api.TimerKind) api.Timer { return api.Timer{Kind: kind, At: 50} }

func TestDue(t *testing.T) {
	s := set(flying(t, base(), 3), due(api.TimResend))
	y, o := tick(t, s, 49)
	wantWent(t, o)
	if at(y, api.TimResend) != 50 || y.Phase != api.Open {
		t.Error(y)
	}
	y, o = tick(t, s, 50)
	wantWent(t, o, sent{api.WhyTimeout, 0, 10})
	if at(y, api.TimResend) != 2000050 || y.Phase != api.Loss {
		t.Error(y)
	}
	// However late, and with whatever happens.
	for _, kind := range kinds() {
		_, o = step(t, s, api.In{Kind: kind, Now: 1 << 40})
		if len(o.Sent) == 0 || went(o)[0] != (sent{api.WhyTimeout, 0, 10}) {
			t.Error(kind, o)
		}
	}
}

// TestDueInOrder: by times, then by kinds.
func TestDueInOrder(t *testing.T) {
	s := flying(t, base(), 3)
	y, o := tick(t, set(s, due(api.TimProbe), due(api.TimResend)), 50)
	wantWent(t, o, sent{api.WhyProbe, 20, 30}, sent{api.WhyTimeout, 0, 10})
	if y.Phase != api.Loss || y.Probing {
		t.Error(y)
	}
	// Behind a timeout there is no probe.
	y, o = tick(t, set(s, due(api.TimProbe), api.Timer{Kind: api.TimResend, At: 49}), 50)
	wantWent(t, o, sent{api.WhyTimeout, 0, 10})
	if y.Phase != api.Loss || y.Probing {
		t.Error(y)
	}
	// All at once: each goes off, and only those that are set anew run then.
	all := set(s, due(1), due(2), due(3), due(4), due(5))
	y, o = tick(t, all, 50)
	wantWent(t, o, sent{api.WhyProbe, 20, 30}, sent{api.WhyTimeout, 0, 10})
	if !slices.Equal(y.Timers, []api.Timer{{Kind: api.TimResend, At: 2000050}}) || y.Window.Tries != 0 {
		t.Error(y)
	}
	// A segment comes ahead of the timers: there is nothing left to send again.
	y, o = hear(t, all, 50, told{ack: 30, win: 1000})
	wantWent(t, o)
	if y.Phase != api.Open || len(y.Timers) != 0 || y.Window.Tries != 1 {
		t.Error(y)
	}
}

func TestProbe(t *testing.T) {
	s := set(flying(t, base(), 3), due(api.TimProbe), api.Timer{Kind: api.TimResend, At: 900})
	y, o := tick(t, s, 50)
	wantWent(t, o, sent{api.WhyProbe, 20, 30})
	if x := y.Recs[2]; !y.Probing || y.Phase != api.Open || x.Tx != 2 || x.Sent != 50 || x.Lost || x.Again || y.LastAt != 50 {
		t.Error(y)
	}
	if at(y, api.TimProbe) != -1 || at(y, api.TimResend) != 900 || y.Cc.Cwnd != s.Cc.Cwnd {
		t.Error(y.Timers)
	}
	for _, phase := range []api.Phase{api.Recovery, api.Loss} {
		s := copied(s)
		s.Phase, s.High = phase, 30
		y, o = tick(t, s, 50)
		wantWent(t, o)
		if y.Probing || at(y, api.TimProbe) != -1 {
			t.Error(phase, y)
		}
	}
	s.Probing = true
	y, o = tick(t, s, 50)
	wantWent(t, o)
	if !y.Probing || at(y, api.TimProbe) != -1 {
		t.Error("Probing:", y)
	}
	y, o = tick(t, set(fresh(t, base()), due(api.TimProbe)), 50)
	wantWent(t, o)
	if y.Probing || len(y.Timers) != 0 {
		t.Error("without Recs:", y)
	}
}

// held answers one whose window lets nothing more go, but that of the peer does: n bytes wait.
func held(t *testing.T, c api.Config, n int) api.Tcp {
	t.Helper()
	c.First = 3
	s, _ := write(t, flying(t, c, 3), 10, n)
	if s.Next != 30 {
		t.Fatal(s)
	}
	return set(s, due(api.TimProbe), api.Timer{Kind: api.TimResend, At: 900})
}

func TestProbeWithNewData(t *testing.T) {
	y, o := tick(t, held(t, base(), 25), 50)
	wantWent(t, o, sent{api.WhyProbe, 30, 40})
	if !y.Probing || len(y.Recs) != 4 || y.Next != 40 || y.Recs[3].Tx != 1 || y.Recs[2].Tx != 1 {
		t.Error(y)
	}
	_, o = tick(t, held(t, base(), 7), 50)
	wantWent(t, o, sent{api.WhyProbe, 30, 37})
	// One that the window lets go anyway goes behind the probe.
	s := held(t, base(), 25)
	s.Cc.Cwnd = 55
	y, o = tick(t, s, 50)
	wantWent(t, o, sent{api.WhyProbe, 30, 40}, sent{api.WhyNew, 40, 50}, sent{api.WhyNew, 50, 55})
	// The peer's window is kept.
	s = held(t, base(), 25)
	s.Window.Size = 30
	_, o = tick(t, s, 50)
	wantWent(t, o, sent{api.WhyProbe, 20, 30})
	s = held(t, base(), 3)
	s.Window.Size = 33
	_, o = tick(t, s, 50)
	wantWent(t, o, sent{api.WhyProbe, 30, 33})
	s.Window.Size = 32
	_, o = tick(t, s, 50)
	wantWent(t, o, sent{api.WhyProbe, 20, 30})
	// Nagle's rule too: what is small waits for what is on its way.
	c := base()
	c.Nagle = true
	_, o = tick(t, held(t, c, 7), 50)
	wantWent(t, o, sent{api.WhyProbe, 20, 30})
	_, o = tick(t, held(t, c, 10), 50)
	wantWent(t, o, sent{api.WhyProbe, 30, 40})
	// The end alone, where the peer has room for it, and with bytes.
	s = held(t, base(), 0)
	s.Ring.Closed = true
	y, o = tick(t, s, 50)
	wantWent(t, o, sent{api.WhyProbe, 30, 31})
	if !y.FinSent || y.Next != 30 {
		t.Error(y)
	}
	s = held(t, base(), 5)
	s.Ring.Closed = true
	if y, o = tick(t, s, 50); !y.FinSent || y.Next != 35 {
		t.Error(y)
	}
	wantWent(t, o, sent{api.WhyProbe, 30, 36})
	// Where the end was sent there is nothing new.
	_, o = tick(t, set(ended(t), due(api.TimProbe)), 50)
	wantWent(t, o, sent{api.WhyProbe, 15, 16})
}

// TestProbePace: a probe neither asks the pacer nor takes of it.
func TestProbePace(t *testing.T) {
	c := base()
	c.Pace, c.Burst = true, 1000
	s := held(t, c, 5)
	s.Pacer = api.Pacer{Rate: 1, Burst: 20, Tokens: -5, Last: 50}
	y, o := tick(t, s, 50)
	wantWent(t, o, sent{api.WhyProbe, 30, 35})
	if y.Pacer.Tokens != -5 {
		t.Error(y.Pacer)
	}
	y, o = tick(t, set(y, due(api.TimResend)), 50)
	wantWent(t, o, sent{api.WhyTimeout, 0, 10})
	if y.Pacer.Tokens != -5 {
		t.Error(y.Pacer)
	}
}

func TestResend(t *testing.T) {
	s := set(flying(t, base(), 5), due(api.TimResend))
	s.Probing, s.Quota, s.Recs[2].Sacked, s.Recs[3].Lost = true, 9, true, true
	s.Cc.Cwnd = 80
	y, o := tick(t, s, 50)
	if len(o.Sent) != 1 || o.Sent[0].Pipe != 0 || o.Sent[0].Cwnd != 10 {
		t.Error(o)
	}
	wantWent(t, o, sent{api.WhyTimeout, 0, 10})
	if y.Rtt.Rto != 2000000 || y.Cc.Cwnd != 10 || y.Cc.Ssthresh != 25 || y.Phase != api.Loss || y.High != 50 || y.Quota != 0 || y.Probing {
		t.Errorf("%+v", y)
	}
	for i, x := range y.Recs {
		if !x.Lost || x.Sacked || x.Again != (i == 0) || x.Tx != 1+map[bool]int{true: 1}[i == 0] {
			t.Error(i, x)
		}
	}
	// In each phase, and again: the timeout doubles, at most High.
	y.Config.High, y.Rtt.High = 3000000, 3000000
	z, o := tick(t, y, at(y, api.TimResend))
	wantWent(t, o, sent{api.WhyTimeout, 0, 10})
	if z.Rtt.Rto != 3000000 || at(z, api.TimResend) != 50+2000000+3000000 || z.Recs[0].Tx != 3 {
		t.Error(z.Rtt, z.Timers)
	}
	s.Phase, s.High = api.Recovery, 20
	if z, _ = tick(t, s, 50); z.Phase != api.Loss || z.High != 50 {
		t.Error(z)
	}
	// Without Recs there is nothing to do.
	f := set(fresh(t, base()), due(api.TimResend))
	z, o = tick(t, f, 50)
	wantWent(t, o)
	if z.Rtt != f.Rtt || z.Phase != api.Open || z.Cc.Cwnd != 50 || len(z.Timers) != 0 {
		t.Error(z)
	}
	// High and the flight count the end's number.
	if z, _ = tick(t, set(ended(t), due(api.TimResend)), 50); z.High != 16 {
		t.Error(z)
	}
}

func TestResendOfOthers(t *testing.T) {
	for _, kind := range []api.CcKind{api.Cubic, api.Bbr} {
		c := base()
		c.Cc = kind
		y, _ := tick(t, set(flying(t, c, 5), due(api.TimResend)), 50)
		if y.Cc.Cwnd != 10 || kind == api.Cubic && y.Cc.Ssthresh != 35 || kind == api.Bbr && y.Cc.Prior != 50 {
			t.Error(y.Cc)
		}
	}
}

// shutWindow answers one with n bytes to send, and a window without room.
func shutWindow(t *testing.T, n int) api.Tcp {
	t.Helper()
	s, _ := hear(t, fresh(t, base()), 1, told{ack: 0, win: 0})
	s, o := write(t, s, 2, n)
	wantWent(t, o)
	return s
}

func TestPersist(t *testing.T) {
	s := shutWindow(t, 25)
	if !slices.Equal(s.Timers, []api.Timer{{Kind: api.TimPersist, At: 1000002}}) {
		t.Fatal(s.Timers)
	}
	y, o := tick(t, s, 1000001)
	wantWent(t, o)
	y, o = tick(t, s, 1000002)
	wantWent(t, o, sent{api.WhyPersist, 0, 1})
	if y.Window.Tries != 1 || y.Next != 1 || len(y.Recs) != 1 || y.Phase != api.Open || y.Rtt.Rto != 1000000 {
		t.Error(y)
	}
	// The byte is on its way as any other.
	if at(y, api.TimPersist) != -1 || at(y, api.TimResend) != 2000002 || at(y, api.TimProbe) != 2000002 {
		t.Error(y.Timers)
	}
	// It is acknowledged, and the window still shut: the next one comes later.
	z, o := hear(t, y, 1000102, told{ack: 1, win: 0})
	wantWent(t, o)
	if z.Window.Tries != 1 || at(z, api.TimPersist) != 1000102+2200 || z.Rtt.Rto != 1100 && z.Rtt.Srtt != 100 {
		t.Error(z.Timers, z.Rtt)
	}
	// It opens: the others go.
	z, o = hear(t, y, 1000102, told{ack: 1, win: 1000})
	wantWent(t, o, sent{api.WhyNew, 1, 11}, sent{api.WhyNew, 11, 21}, sent{api.WhyNew, 21, 25})
	if at(z, api.TimPersist) != -1 || z.Window.Tries != 0 {
		t.Error(z)
	}
	// Where the window is open by then, a byte goes ahead of the others.
	o2 := copied(s)
	o2.Window.Size = 1000
	z, o = tick(t, o2, 1000002)
	wantWent(t, o, sent{api.WhyPersist, 0, 1}, sent{api.WhyNew, 1, 11}, sent{api.WhyNew, 11, 21}, sent{api.WhyNew, 21, 25})
	if z.Window.Tries != 1 {
		t.Error(z.Window)
	}
	// With Recs nothing goes, and nothing counts.
	z, o = tick(t, set(flying(t, base(), 3), due(api.TimPersist)), 50)
	wantWent(t, o)
	if z.Window.Tries != 0 || at(z, api.TimPersist) != -1 {
		t.Error(z)
	}
	// Without anything to send it is counted.
	z, o = tick(t, set(fresh(t, base()), due(api.TimPersist)), 50)
	wantWent(t, o)
	if z.Window.Tries != 1 || len(z.Timers) != 0 {
		t.Error(z)
	}
}

// TestPersistEnd: the end alone is asked for, too; not with the last byte.
func TestPersistEnd(t *testing.T) {
	s, o := shut(t, shutWindow(t, 1), 3)
	wantWent(t, o)
	y, o := tick(t, s, 1000002)
	wantWent(t, o, sent{api.WhyPersist, 0, 1})
	if y.FinSent {
		t.Error(y)
	}
	z, o := hear(t, y, 1000102, told{ack: 1, win: 0})
	wantWent(t, o)
	if at(z, api.TimPersist) != 1000102+2200 {
		t.Error(z.Timers)
	}
	z, o = tick(t, z, at(z, api.TimPersist))
	wantWent(t, o, sent{api.WhyPersist, 1, 2})
	if !z.FinSent || z.Next != 1 || !z.Recs[0].Fin || z.Window.Tries != 2 {
		t.Error(z)
	}
	if z, _ = hear(t, z, 1002400, told{ack: 2, win: 0}); !z.Sure || len(z.Timers) != 0 {
		t.Error(z)
	}
}

func TestPaceGoesOff(t *testing.T) {
	c := base()
	c.Pace = true
	s := fresh(t, c)
	s.Pacer = api.Pacer{Rate: 1000000, Burst: 20, Tokens: 0, Last: 0}
	s, o := write(t, s, 0, 10)
	wantWent(t, o)
	if !slices.Equal(s.Timers, []api.Timer{{Kind: api.TimPace, At: 10}}) {
		t.Fatal(s.Timers)
	}
	y, o := tick(t, s, 9)
	wantWent(t, o)
	y, o = tick(t, s, 10)
	wantWent(t, o, sent{api.WhyNew, 0, 10})
	if at(y, api.TimPace) != -1 || y.Pacer.Tokens != 0 {
		t.Error(y)
	}
}

// P23.7

// TestWithoutRecs: none of the first three runs.
func TestWithoutRecs(t *testing.T) {
	late := func(kind api.TimerKind) api.Timer { return api.Timer{Kind: kind, At: 1 << 40} }
	all := []api.Timer{late(1), late(2), late(3), late(4), late(5)}
	y, _ := tick(t, set(fresh(t, base()), all...), 50)
	if !slices.Equal(y.Timers, all[4:]) {
		t.Error(y.Timers)
	}
	y, _ = hear(t, set(flying(t, base(), 1), all...), 50, told{ack: 10, win: 1000})
	if !slices.Equal(y.Timers, all[4:]) {
		t.Error(y.Timers)
	}
	if y, _ = tick(t, set(sure(t), all...), 200); !slices.Equal(y.Timers, all[4:]) {
		t.Error(y.Timers)
	}
}

func TestSetResend(t *testing.T) {
	s, _ := write(t, fresh(t, base()), 7, 10)
	if at(s, api.TimResend) != 1000007 {
		t.Error("does not run:", s.Timers)
	}
	s, _ = write(t, s, 9, 10)
	if at(s, api.TimResend) != 1000007 {
		t.Error("runs:", s.Timers)
	}
	if y, _ := hear(t, s, 100, told{ack: 0, win: 1000, blocks: []pair{{10, 20}}}); at(y, api.TimResend) != 1000007 {
		t.Error("not Ahead:", y.Timers)
	}
	if y, _ := hear(t, s, 100, told{ack: 1, win: 1000}); at(y, api.TimResend) != 1000100 {
		t.Error("Ahead:", y.Timers)
	}
	y, _ := hear(t, s, 100, told{ack: 10, win: 1000})
	if at(y, api.TimResend) != 100+1093 {
		t.Error("Ahead, with a time:", y.Timers, y.Rtt)
	}
	// Ahead is of this step alone.
	if y, _ = tick(t, y, 150); at(y, api.TimResend) != 100+1093 {
		t.Error("a step behind:", y.Timers)
	}
	if y, _ = tick(t, set(s, due(api.TimPace)), 60); at(y, api.TimResend) != 1000060 {
		t.Error("nothing sent, does not run:", y.Timers)
	}
}

func TestSetProbe(t *testing.T) {
	s, _ := write(t, fresh(t, base()), 7, 10)
	if at(s, api.TimProbe) != 1000007 {
		t.Error("no time yet:", s.Timers)
	}
	s.Rtt.Srtt = 100
	y, _ := write(t, s, 9, 10)
	if at(y, api.TimProbe) != 209 {
		t.Error("sent:", y.Timers)
	}
	if z, _ := tick(t, y, 20); at(z, api.TimProbe) != 209 {
		t.Error("nothing sent:", z.Timers)
	}
	if z, _ := hear(t, y, 20, told{ack: 0, win: 1000}); at(z, api.TimProbe) != 209 {
		t.Error("not Ahead:", z.Timers)
	}
	if z, _ := hear(t, y, 20, told{ack: 1, win: 1000}); at(z, api.TimProbe) != 220 {
		t.Error("Ahead:", z.Timers)
	}
	y, _ = hear(t, y, 20, told{ack: 10, win: 1000})
	if at(y, api.TimProbe) != 20+2*89+200000 && at(y, api.TimProbe) != 20+y.Rtt.Rto {
		t.Error("one:", y.Timers, y.Rtt)
	}
	// One alone: 200000 later, at most Rto.
	s.Rtt.Rto = 900000
	s.Recs[0].Tx = 2
	s.Rtt.Var = 200000
	s, _ = write(t, s, 9, 1)
	y, _ = hear(t, s, 20, told{ack: 10, win: 1000})
	if at(y, api.TimProbe) != 20+200+200000 {
		t.Error("one:", y.Timers, y.Rtt)
	}
	for _, phase := range []api.Phase{api.Recovery, api.Loss} {
		z := copied(s)
		z.Phase, z.High = phase, 1000
		if z, _ = tick(t, z, 20); at(z, api.TimProbe) != -1 {
			t.Error(phase, z.Timers)
		}
		z = copied(s)
		z.Phase, z.High, z.Quota = phase, 1000, 100
		if z, _ = write(t, z, 20, 5); len(z.Recs) != 3 || at(z, api.TimProbe) != -1 {
			t.Error(phase, z.Timers)
		}
	}
	s.Probing = true
	was := at(s, api.TimProbe)
	if y, _ = write(t, s, 20, 10); at(y, api.TimProbe) != was {
		t.Error("Probing:", y.Timers)
	}
	// What ends the probe lets the next one be waited for.
	if y, _ = hear(t, s, 20, told{ack: 5, win: 1000}); at(y, api.TimProbe) != 20+200 {
		t.Error("no more Probing:", y.Timers)
	}
}

func TestSetPersist(t *testing.T) {
	s := shutWindow(t, 5)
	if at(s, api.TimPersist) != 1000002 {
		t.Error(s.Timers)
	}
	if y, _ := tick(t, s, 9); at(y, api.TimPersist) != 1000002 {
		t.Error("runs:", y.Timers)
	}
	y := copied(s)
	y.Window.Tries, y.Timers = 3, nil
	if y, _ = tick(t, y, 9); at(y, api.TimPersist) != 8000009 {
		t.Error("Tries:", y.Timers)
	}
	y = copied(s)
	y.Config.High, y.Timers = 5000, nil
	if y, _ = tick(t, y, 9); at(y, api.TimPersist) != 5009 {
		t.Error("High:", y.Timers)
	}
	y = copied(s)
	y.Config.Low, y.Timers = 3000000, nil
	if y, _ = tick(t, y, 9); at(y, api.TimPersist) != 3000009 {
		t.Error("Low:", y.Timers)
	}
	if y, _ = tick(t, set(s, api.Timer{Kind: 4, At: 77}, api.Timer{Kind: 5, At: 78}), 9); at(y, api.TimPersist) != -1 || at(y, api.TimPace) != 78 {
		t.Error("TimPace runs:", y.Timers)
	}
	if y, _ = tick(t, set(fresh(t, base()), api.Timer{Kind: 4, At: 77}), 9); len(y.Timers) != 0 {
		t.Error("nothing to send:", y.Timers)
	}
	if y, _ = tick(t, set(flying(t, base(), 3), api.Timer{Kind: 4, At: 77}), 9); at(y, api.TimPersist) != -1 {
		t.Error("with Recs:", y.Timers)
	}
	// The end alone is something to send, till it was sent.
	y, _ = shut(t, shutWindow(t, 0), 9)
	if at(y, api.TimPersist) != 1000009 {
		t.Error("the end:", y.Timers)
	}
	if y, _ = tick(t, set(sure(t), api.Timer{Kind: 4, At: 1 << 40}), 200); len(y.Timers) != 0 {
		t.Error("sent:", y.Timers)
	}
	if sender.Check(y) != api.OK {
		t.Error(y)
	}
}
