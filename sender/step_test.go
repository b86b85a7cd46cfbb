package sender_test

import (
	"bytes"
	"testing"

	"tideway/api"
	"tideway/sender"
)

// P23.3

func TestExample(t *testing.T) {
	c := base()
	c.First = 2
	s, o := write(t, fresh(t, c), 0, 25)
	wantWent(t, o, sent{api.WhyNew, 0, 10}, sent{api.WhyNew, 10, 20})
	if o.Taken != 25 || s.Next != 20 || len(s.Ring.Data) != 25 {
		t.Error(o, s)
	}
}

func TestStepOfWhatMayNotBe(t *testing.T) {
	s := busy(t)
	s.LastAt = s.Now + 1
	for _, kind := range append(kinds(), 0, 5) {
		// The state is asked ahead of the time and the kind.
		for _, now := range []int{s.Now, -1, 1 << 60} {
			y, o := step(t, s, api.In{Kind: kind, Now: now, Data: []byte("ab")})
			if !same(y, api.Tcp{}) || !sameOut(o, api.Out{Err: api.ErrState}) {
				t.Error(kind, now, y, o)
			}
		}
	}
}

func TestStepTimes(t *testing.T) {
	s := busy(t)
	for _, kind := range kinds() {
		for _, now := range []int{s.Now - 1, -1, -1 << 63, 1<<49 + 1, 1<<63 - 1} {
			y, o := step(t, s, api.In{Kind: kind, Now: now, Data: []byte("ab")})
			if !same(y, s) || !sameOut(o, api.Out{Err: api.ErrArg}) {
				t.Error(kind, now, y, o)
			}
		}
		for _, now := range []int{s.Now, s.Now + 1, 1 << 49} {
			y, o := step(t, s, api.In{Kind: kind, Now: now, Data: []byte("ab")})
			if y.Now != now || o.Err != api.OK {
				t.Error(kind, now, y.Now, o)
			}
		}
	}
}

func TestStepKinds(t *testing.T) {
	s := busy(t)
	for _, kind := range []api.InKind{0, 5, -1, 1 << 62, -1 << 63} {
		// Timers are due then, and still nothing is done.
		y, o := step(t, s, api.In{Kind: kind, Now: 1 << 40, Data: []byte("ab")})
		if !same(y, s) || !sameOut(o, api.Out{Err: api.ErrArg}) {
			t.Error(kind, y, o)
		}
	}
}

func TestWrite(t *testing.T) {
	c := base()
	c.Cap = 30
	s, o := write(t, fresh(t, c), 0, 30)
	if o.Taken != 30 || o.Err != api.OK || len(s.Ring.Data) != 30 {
		t.Error("whole:", o)
	}
	s, o = write(t, s, 1, 5)
	if o.Taken != 0 || o.Err != api.OK || len(s.Ring.Data) != 30 {
		t.Error("full:", o)
	}
	s, _ = hear(t, s, 100, told{ack: 10, win: 1000})
	s, o = write(t, s, 101, 15)
	if o.Taken != 10 || o.Err != api.OK || len(s.Ring.Data) != 30 || s.Ring.Base != 10 || s.Ring.Data[29] != 39 {
		t.Error("in part:", o, s.Ring)
	}
	s, o = write(t, s, 102, 0)
	if o.Taken != 0 || o.Err != api.OK {
		t.Error("nothing:", o)
	}
	s, _ = hear(t, s, 200, told{ack: 40, win: 1000})
	s, _ = shut(t, s, 201)
	s, o = write(t, s, 202, 5)
	if o.Taken != 0 || o.Err != api.ErrEnd || len(s.Ring.Data) != 0 {
		t.Error("behind the end:", o, s.Ring)
	}
	// The end is asked ahead of the room.
	if s, o = write(t, s, 203, 0); o.Err != api.ErrEnd || s.Now != 203 {
		t.Error("nothing, behind the end:", o)
	}
}

func TestClose(t *testing.T) {
	s, o := shut(t, fresh(t, base()), 0)
	if o.Err != api.OK || !s.Ring.Closed || !s.FinSent {
		t.Error(o, s)
	}
	wantWent(t, o, sent{api.WhyNew, 0, 1})
	s, o = shut(t, s, 1)
	if o.Err != api.ErrEnd || !s.Ring.Closed || s.Now != 1 || o.Taken != 0 {
		t.Error("twice:", o)
	}
	wantWent(t, o)
}

// What is no write and no segment has no use for Data.
func TestDataOfOthers(t *testing.T) {
	for _, kind := range []api.InKind{api.InClose, api.InTick} {
		a, o := step(t, fresh(t, base()), api.In{Kind: kind, Data: []byte("hello")})
		b, p := step(t, fresh(t, base()), api.In{Kind: kind})
		if !same(a, b) || !sameOut(o, p) || o.Taken != 0 {
			t.Error(kind, a, o)
		}
	}
}

// TestFollowsErrors: timers, sending and the setting of timers follow whatever Err is.
func TestFollowsErrors(t *testing.T) {
	s := fresh(t, base())
	s, _ = write(t, s, 0, 10)
	s, _ = shut(t, s, 1)
	for _, kind := range []api.InKind{api.InWrite, api.InClose} {
		y, o := step(t, s, api.In{Kind: kind, Now: 1000000, Data: []byte("a")})
		if o.Err != api.ErrEnd || at(y, api.TimResend) != 3000000 {
			t.Error(o, y.Timers)
		}
		wantWent(t, o, sent{api.WhyTimeout, 0, 10})
	}
	// A window that opened by hand lets go what waits, though the write is refused.
	s = fresh(t, base())
	s, _ = hear(t, s, 0, told{ack: 0, win: 0})
	s, _ = write(t, s, 1, 10)
	s, o := shut(t, s, 2)
	wantWent(t, o)
	s.Window.Size = 1000
	s, o = write(t, s, 3, 1)
	if o.Err != api.ErrEnd || at(s, api.TimResend) != 1000003 || at(s, api.TimPersist) != -1 {
		t.Error(o, s.Timers)
	}
	wantWent(t, o, sent{api.WhyNew, 0, 11})
}

func TestTick(t *testing.T) {
	s := busy(t)
	y, o := tick(t, s, s.Now)
	if o.Taken != 0 || o.Err != api.OK || len(o.Sent) != 0 {
		t.Error(o)
	}
	if !same(y, s) {
		t.Error(difference(y, s))
	}
	// Where nothing was ever written, nothing is sent, however long.
	y = fresh(t, base())
	for _, now := range []int{0, 1, 1000000, 1 << 40, 1 << 49} {
		if y, o = tick(t, y, now); len(o.Sent) != 0 || len(y.Timers) != 0 {
			t.Error(now, o, y.Timers)
		}
	}
}

// TestKeptErrors: where a layer's call answers an error, what it would change stays.
func TestKeptErrors(t *testing.T) {
	// Told is refused of an offset beyond the last one.
	s := fresh(t, base())
	s.Peer = 1<<50 + 1
	y, _ := hear(t, s, 5, told{ack: 0, win: 7})
	if y.Window != s.Window {
		t.Error("Window:", y.Window)
	}
	// A shortest round trip that is no time: Rate, Rack and the wait stay, all else goes on.
	s = flying(t, base(), 3)
	s.Low = []api.Entry{{At: 1 << 45, V: 1<<50 + 1}}
	y, _ = hear(t, s, 100, told{ack: 10, win: 1000})
	if y.Rate.Given != 0 || y.Rack != s.Rack || len(y.Recs) != 2 || y.Rtt.Srtt != 100 {
		t.Errorf("%+v", y)
	}
	// The wait for what comes out of order is none, then.
	for now, lost := range map[int]bool{98: false, 99: true} {
		z := flying(t, base(), 4)
		z.Low, z.Rack = s.Low, api.Rack{Sent: 3, End: 40, Rtt: 97, Mult: 1}
		z.Recs[0].Sacked, z.Recs[1].Sacked = true, true
		if y, _ = hear(t, z, now, told{ack: 0, win: 999}); y.Recs[2].Lost != lost {
			t.Error(now, y.Recs)
		}
	}
	// A timeout beyond all times: the timer stays as it was.
	s = flying(t, base(), 3)
	s.Rtt.High, s.Rtt.Rto = 1<<50, 1<<50
	was := at(s, api.TimResend)
	if y, _ = hear(t, s, 0+2, told{ack: 10, win: 1000}); at(y, api.TimResend) == was {
		t.Error("a timeout that a sample brought back:", y.Timers)
	}
	s.Recs[0].Tx = 2
	s.Rtt.Srtt = 1 << 50
	if y, _ = hear(t, s, 100, told{ack: 10, win: 1000}); at(y, api.TimResend) != was {
		t.Error("TimResend:", y.Timers)
	}
	// A bucket that was filled later than now.
	s = flying(t, base(), 1)
	s.Pacer.Last = 1 << 40
	if y, _ = hear(t, s, 100, told{ack: 10, win: 1000}); y.Pacer.Last != 1<<40 || y.Pacer.Tokens != s.Pacer.Tokens || y.Pacer.Rate == s.Pacer.Rate {
		t.Error("Pacer:", y.Pacer)
	}
}

// TestSentBytes: the bytes of what is sent are those that were written.
func TestSentBytes(t *testing.T) {
	data := []byte("what is written is what is sent, byte by byte")
	for _, kind := range []api.CcKind{api.Reno, api.Cubic, api.Bbr} {
		c := base()
		c.Cc = kind
		in := bytes.Clone(data)
		s, o := sender.Step(fresh(t, c), api.In{Kind: api.InWrite, Data: in})
		clear(in)
		for _, x := range o.Sent {
			if got := x.Data[20:]; !bytes.Equal(got, data[x.From:x.To]) {
				t.Errorf("%q", got)
			}
		}
		if len(o.Sent) != 5 || !bytes.Equal(s.Ring.Data, data) {
			t.Error(o, s.Ring)
		}
	}
}
