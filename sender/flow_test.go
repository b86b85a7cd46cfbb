package sender_test

import (
	"bytes"
	"testing"

	"tideway/api"
	"tideway/sender"
	"tideway/wire"
)

// P23.8, and the promises of the whole that are a sender's (W3 to W6). That a sender that may be stays one is asked at
// each step (function step).

// isMetered tells whether PRR says how much goes.
func isMetered(s api.Tcp) bool { return s.Phase == api.Recovery && s.Config.Cc != api.Bbr }

// size answers how many bytes a segment has, the end's number left out.
func size(t *testing.T, x api.Sent) int {
	t.Helper()
	return len(read(t, x).Data)
}

// keepsWindows holds a step against W3: new data stay within the edge, and what is on its way within Cwnd.
func (w *world) keepsWindows(was, is api.Tcp, o api.Out) {
	w.t.Helper()
	top, spent := sender.Top(was), 0
	for _, x := range o.Sent {
		isNew := x.From >= top
		if isNew && x.Why != api.WhyPersist && (x.To > x.Edge || !w.forged && x.To > w.r.Edge) {
			w.t.Fatalf("beyond the edge: %+v", x)
		}
		if isNew {
			top = x.To
		}
		n := size(w.t, x)
		switch {
		case x.Why == api.WhyTimeout, x.Why == api.WhyProbe:
		case x.Why == api.WhyPersist:
			if x.To != x.From+1 || x.Pipe != 0 {
				w.t.Fatalf("a persist probe: %+v", x)
			}
		case isMetered(is):
			spent += n
		case x.Pipe+n > x.Cwnd && !(x.Why == api.WhyAgain && x.Pipe == 0) && n > 0:
			w.t.Fatalf("beyond Cwnd: %+v", x)
		}
	}
	if isMetered(is) && spent > is.Prr.Out {
		w.t.Fatalf("beyond what PRR lets go: %+v", is)
	}
}

// keepsBytes holds a step against W5: each byte is the one that was written there.
func (w *world) keepsBytes(o api.Out) {
	w.t.Helper()
	for _, x := range o.Sent {
		s := read(w.t, x)
		if s.Seq != w.s.Config.Iss+uint32(x.From) || x.From+len(s.Data) > len(w.all) || !bytes.Equal(s.Data, w.all[x.From:x.From+len(s.Data)]) {
			w.t.Fatalf("other bytes: %+v", x)
		}
	}
}

// flagged answers a configuration of each controller and each flag in turn, its numbers by the dice.
func flagged(d *dice, n int) api.Config {
	c := config(d)
	c.Cc = api.CcKind(1 + n%3)
	n /= 3
	c.Pace, c.Stamps, c.Sacks, c.Nagle = n&1 > 0, n&2 > 0, n&4 > 0, n&8 > 0
	return c
}

func TestFlow(t *testing.T) {
	t.Parallel()
	for n := range 240 {
		d := &dice{uint64(n + 900)}
		w := newWorld(t, d, flagged(d, n))
		w.bad = d.of(0, 3, 10, 40)
		w.each = func(was, is api.Tcp, o api.Out) {
			w.keepsWindows(was, is, o)
			w.keepsBytes(o)
		}
		for range 150 {
			w.stir()
		}
		if !bytes.HasPrefix(w.all, w.got) {
			t.Fatal("read what was not written")
		}
		w.finish()
	}
}

// finish lets all come that is sent, till the sender knows that all came (W2).
func (w *world) finish() {
	w.t.Helper()
	w.bad = 0
	w.step(api.In{Kind: api.InClose, Now: w.s.Now})
	for range 100000 {
		w.read(1 << 30)
		if !w.pass() {
			break
		}
	}
	w.read(1 << 30)
	if !w.s.Sure || !w.r.Done || !bytes.Equal(w.got, w.all) || len(w.s.Ring.Data) != 0 || len(w.s.Recs) != 0 {
		w.t.Fatalf("not all came: %d of %d, %+v", len(w.got), len(w.all), w.s)
	}
	if len(w.s.Timers) != 0 && at(w.s, api.TimPace) < 0 {
		w.t.Fatal("something runs still", w.s.Timers)
	}
	// With nothing to send, and nothing on its way, time passes.
	w.each = func(was, is api.Tcp, o api.Out) {
		if len(o.Sent) != 0 {
			w.t.Fatal("something is sent still", o)
		}
	}
	for _, now := range []int{w.s.Now, w.s.Now + 1, w.s.Now + 1<<30, 1 << 49} {
		w.step(api.In{Kind: api.InTick, Now: now})
	}
}

// TestForgedFlow: segments that nobody sent may stop a sender, but it goes on sending what was written.
func TestForgedFlow(t *testing.T) {
	t.Parallel()
	for n := range 240 {
		d := &dice{uint64(n + 1900)}
		w := newWorld(t, d, flagged(d, n))
		w.bad, w.forged = d.of(0, 10), true
		w.each = func(was, is api.Tcp, o api.Out) {
			w.keepsWindows(was, is, o)
			w.keepsBytes(o)
		}
		for range 150 {
			w.stir()
		}
	}
}

// TestNoise: bytes that are no segment leave the stream as it was (W4).
func TestNoise(t *testing.T) {
	t.Parallel()
	for n := range 96 {
		d := &dice{uint64(n + 2900)}
		w := newWorld(t, d, flagged(d, n))
		for range 60 {
			w.stir()
			b := d.bytes(d.below(80))
			if len(w.back) > 0 {
				b = bytes.Clone(w.back[d.below(len(w.back))].data)
				b[d.below(len(b))] ^= 1 << d.below(8)
			}
			if _, e := wire.Get(b, 2, 1); e == api.OK {
				continue
			}
			unheard(t, "noise", w.s, w.s.Now+d.below(2000), b)
		}
	}
}

// TestPaceKept: in any time no more leaves of what is new or lost than the greatest rate times it, a burst, and one
// byte more (W6).
func TestPaceKept(t *testing.T) {
	t.Parallel()
	for n := range 120 {
		d := &dice{uint64(n + 3900)}
		c := flagged(d, n)
		c.Pace = true
		w := newWorld(t, d, c)
		w.bad = d.of(0, 5, 20)
		rate := 0
		var left []api.Entry
		w.each = func(was, is api.Tcp, o api.Out) {
			rate = max(rate, was.Pacer.Rate, is.Pacer.Rate)
			for _, x := range o.Sent {
				if x.Why == api.WhyNew || x.Why == api.WhyAgain {
					left = append(left, api.Entry{At: is.Now, V: x.To - x.From})
				}
			}
		}
		for range 150 {
			w.stir()
		}
		w.finish()
		for i := range left {
			sum := 0
			for _, x := range left[i:] {
				sum += x.V
				if (sum-c.Burst-1)*1000000 > rate*(x.At-left[i].At) {
					t.Fatal("faster:", c, left[i], x, sum, rate)
				}
			}
		}
	}
}

// TestWithoutLoss: on a path that loses nothing each byte is sent once, but by probes, if the timeout is long enough.
func TestWithoutLoss(t *testing.T) {
	t.Parallel()
	for n := range 48 {
		d := &dice{uint64(n + 4900)}
		c := flagged(d, n)
		c.Low, c.High = 1000000, 60000000
		w := newWorld(t, d, c)
		w.delay = 100
		for range 200 {
			w.stir()
			w.read(1 << 30)
		}
		w.finish()
		for _, x := range w.log {
			if x.Why == api.WhyAgain || x.Why == api.WhyTimeout {
				t.Fatalf("%+v: %+v", c, x)
			}
		}
	}
}
