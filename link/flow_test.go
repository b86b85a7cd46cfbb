package link_test

import (
	"bytes"
	"testing"

	"tideway/api"
	"tideway/link"
	"tideway/sender"
)

// run is a link in a script's hand, with what was written.
type run struct {
	t       *testing.T
	l       *link.Link
	written []byte
}

// do does an event, and keeps what was written.
func (r *run) do(e api.Event) api.Errno {
	was := r.l.View().Accepted
	no := r.l.Do(e)
	r.written = append(r.written, e.Data[:r.l.View().Accepted-was]...)
	return no
}

// must does an event that is not refused.
func (r *run) must(e api.Event) {
	r.t.Helper()
	if no := r.do(e); no != api.OK {
		r.t.Fatalf("%+v: %v", e, no)
	}
}

// round does a round: time passes, all comes in order, and all is read.
func (r *run) round(time int) {
	r.t.Helper()
	r.must(tick(time))
	for again := true; again; again = r.l.View().Forth+r.l.View().Back > 0 {
		for r.l.View().Forth > 0 {
			r.must(forth(0))
		}
		for r.l.View().Back > 0 {
			r.must(back(0))
		}
		r.must(read(1 << 30))
	}
}

// came tells whether all came, the end too, and both ends know it.
func (r *run) came() bool {
	v := r.l.View()
	return v.Done && v.Sure && v.Read == v.Accepted && len(r.l.Tcp().Ring.Data) == 0
}

// finish tells the end, and does rounds within the bound. All comes then.
func (r *run) finish(d *dice) {
	r.t.Helper()
	r.do(closes)
	c := r.l.Tcp().Config
	n := 16 + 16*(r.l.View().Accepted-r.l.View().Read)
	for ; n > 0 && !r.came(); n-- {
		r.round(c.High + 1 + d.of(0, 0, d.below(1000)))
	}
	if !r.came() || !bytes.Equal(r.l.Got(), r.written) {
		r.t.Fatalf("not all came: %+v: %+v", c, r.l.View())
	}
}

// inOrder asks P24.4.
func (r *run) inOrder() {
	r.t.Helper()
	if !bytes.HasPrefix(r.written, r.l.Got()) {
		r.t.Fatalf("%+v: what was read was not written: %v, %v", r.l.Tcp().Config, r.l.Got(), r.written)
	}
}

// P24.4: whatever the script does, with at most one EvSpoil.

func TestInOrder(t *testing.T) {
	t.Parallel()
	got := 0
	for n := range 480 {
		d := &dice{uint64(n + 5000)}
		r := &run{t: t, l: made(t, flagged(config(d), n))}
		s := anything(d)
		s.spoils = 1
		for range 300 {
			r.do(s.event(r.l))
			r.inOrder()
		}
		got += len(r.l.Got())
	}
	if got < 480*50 {
		t.Error("seldom is anything read:", got)
	}
}

// TestOneBit: no bit of what is sent can be turned so that something else is read.
func TestOneBit(t *testing.T) {
	t.Parallel()
	for n := range 48 {
		c := flagged(small(), n)
		bits := 8 * len(sending(t, c).Forth()[1].Data)
		for bit := range bits {
			r := &run{t: t, l: sending(t, c), written: text(50)}
			r.must(api.Event{Kind: api.EvSpoil, At: 1, Draw: bit})
			// It comes twice, and what is right comes behind it.
			r.must(api.Event{Kind: api.EvDouble, At: 1})
			r.round(0)
			r.inOrder()
			r.finish(&dice{1})
		}
	}
}

// P24.5: all comes, soon.

// soon answers a configuration of which P24.5 speaks.
func soon(d *dice, n int) api.Config {
	c := config(d)
	c.Mss = d.of(8, 9, 20, 536, 1460)
	c.Rcv = max(d.of(1, 2, 7, 20, 100, 1000, 100000), 1<<c.Shift)
	c.High = min(c.Low*d.of(1, 2, 1000, 100000), 1<<17)
	c.Burst = c.Mss * d.of(1, 1, 2, 20)
	c = flagged(c, n)
	if c.Pace {
		// As slow as may be, mostly.
		c.Floor = (c.Burst*1000000+c.High-1)/c.High + d.of(0, 0, 1000)
	}
	return c
}

func TestAllComes(t *testing.T) {
	t.Parallel()
	for n := range 480 {
		d := &dice{uint64(n + 9000)}
		r := &run{t: t, l: made(t, soon(d, n))}
		s := &script{d: d, most: 1000, time: 1<<28 - 1, wrong: true}
		for range d.of(0, 10, 100, 300, 1000) {
			e := s.event(r.l)
			if d.yes(6) {
				e = api.Event{Kind: api.EvLose, At: s.place(r.l.View().Forth)}
			}
			r.do(e)
		}
		r.finish(d)
		r.rests()
	}
}

// rests asks that behind it all nothing more is sent, however much time passes.
func (r *run) rests() {
	r.t.Helper()
	// What is doubled may be on its way still.
	r.round(0)
	for _, time := range []int{0, 1, 1 << 20, 1 << 40} {
		r.must(tick(time))
		if v := r.l.View(); v.Forth+v.Back > 0 || len(r.l.Sent()) > 0 || !r.came() {
			r.t.Fatalf("something is sent still: %+v", v)
		}
	}
}

// The edges that the promise names, with each controller and all flags.
func TestAllComesAtTheEdges(t *testing.T) {
	t.Parallel()
	edge := small()
	// Floor times High is just Burst times 1000000.
	edge.High, edge.Burst, edge.Floor, edge.Mss = 1<<17, 2048, 15625, 100
	each(t, edge, func(t *testing.T, c api.Config) {
		// Nothing is written but the end.
		r := &run{t: t, l: made(t, c)}
		r.finish(&dice{1})
		r.rests()
		// Nothing comes, as long as the script goes on: it is silent for as long as may be.
		for _, one := range []bool{false, true} {
			c := c
			if one {
				c.Rcv, c.Mss = 1, 8
			}
			r = &run{t: t, l: made(t, c)}
			r.must(write(text(1000)))
			for range 900 {
				r.must(tick((1<<28 - 1) / 900))
				for r.l.View().Forth > 0 {
					r.must(api.Event{Kind: api.EvLose})
				}
			}
			r.finish(&dice{1})
			r.rests()
		}
		// The window is shut, and what would open it is lost.
		c.Rcv = 40
		r = &run{t: t, l: made(t, c)}
		r.must(write(text(1000)))
		for v := r.l.View(); v.Forth+v.Back > 0; v = r.l.View() {
			for r.l.View().Forth > 0 {
				r.must(forth(0))
			}
			for r.l.View().Back > 0 {
				r.must(back(0))
			}
		}
		r.must(read(99))
		for r.l.View().Back > 0 {
			r.must(api.Event{Kind: api.EvLoseAck})
		}
		r.finish(&dice{1})
		r.rests()
	})
}

// What is read in the end is the same with each controller.
func TestSameWithEach(t *testing.T) {
	t.Parallel()
	for n := range 160 {
		var reads [3][]byte
		for k := range reads {
			d := &dice{uint64(n + 20000)}
			c := soon(d, 3*n+k)
			c.Cap = 1000
			// The same events for all three: they are drawn for a link of their own.
			first := c
			first.Cc = api.Reno
			drawn, s := made(t, first), &script{d: d, most: 1000, time: 1<<28 - 1, wrong: true}
			r := &run{t: t, l: made(t, c)}
			for range 200 {
				e := s.event(drawn)
				if e.Kind == api.EvClose {
					continue
				}
				drawn.Do(e)
				r.do(e)
			}
			r.finish(d)
			reads[k] = r.l.Got()
		}
		if !bytes.Equal(reads[0], reads[1]) || !bytes.Equal(reads[0], reads[2]) {
			t.Fatal("not the same is read:", n)
		}
	}
}

// P24.6: without EvForge.

// keepsEdge does an event, and asks that nothing new goes beyond the edge that the receiver has told. It answers how
// many went up to it.
func (r *run) keepsEdge(e api.Event) int {
	r.t.Helper()
	top, edge, full := sender.Top(r.l.Tcp()), r.l.Recv().Edge, 0
	r.do(e)
	for _, x := range r.l.Sent() {
		if x.From < top {
			continue
		}
		top = x.To
		if (x.Why == api.WhyNew || x.Why == api.WhyProbe) && x.To > edge {
			r.t.Fatalf("%+v: beyond %d: %+v", r.l.Tcp().Config, edge, x)
		}
		if x.To == edge {
			full++
		}
	}
	return full
}

func TestWindowsAreKept(t *testing.T) {
	t.Parallel()
	full := 0
	for n := range 480 {
		d := &dice{uint64(n + 30000)}
		c := config(d)
		c.Rcv = max(d.of(1, 5, 20, 100, 300), 1<<c.Shift)
		r, s := &run{t: t, l: made(t, flagged(c, n))}, anything(d)
		for range 300 {
			e := s.event(r.l)
			if e.Kind != api.EvForge {
				full += r.keepsEdge(e)
			}
		}
	}
	if full < 480 {
		t.Error("seldom up to the edge:", full)
	}
}
