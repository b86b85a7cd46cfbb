package sender_test

import (
	"tideway/ack"
	"tideway/api"
	"tideway/board"
	"tideway/cc"
	"tideway/filter"
	"tideway/pacer"
	"tideway/prr"
	"tideway/rack"
	"tideway/rate"
	"tideway/ring"
	"tideway/rtt"
	"tideway/seg"
	"tideway/seq"
	"tideway/timer"
	"tideway/window"
	"tideway/wire"
)

// What the chapter's words say, one by one, with nothing spared and nothing kept from one word to the next. The layers
// below are asked as the words name them.

const (
	maxOffset = 1 << 50
	maxSize   = 1 << 30
	lastNow   = 1 << 49
)

// isFrom tells whether n is from low to high.
func isFrom(n, low, high int) bool { return low <= n && n <= high }

// wantValid follows P23.1's words.
func wantValid(c api.Config) api.Errno {
	steps := 1
	for range c.Shift {
		steps *= 2
		if steps > 1<<20 {
			break
		}
	}
	may := isFrom(c.Mss, 8, 60000) && isFrom(c.Cap, 1, maxSize) && isFrom(c.Rcv, 1, maxSize) &&
		isFrom(c.Shift, 0, 14) && c.Rcv/steps >= 1 && isFrom(int(c.Cc), 1, 3) && isFrom(c.Low, 1, c.High) &&
		c.High <= 1<<45 && isFrom(c.First, 1, 100) && isFrom(c.Burst, c.Mss, maxSize) && isFrom(c.Floor, 1, 1<<40)
	if !may {
		return api.ErrArg
	}
	return api.OK
}

// wantUna follows P23.2's words.
func wantUna(t api.Tcp) int {
	if t.Sure {
		return t.Ring.Base + 1
	}
	return t.Ring.Base
}

// wantTop follows P23.2's words.
func wantTop(t api.Tcp) int {
	if t.FinSent {
		return t.Next + 1
	}
	return t.Next
}

// wantCheck follows P23.2's words.
func wantCheck(t api.Tcp) api.Errno {
	end := ring.End(t.Ring)
	row := len(t.Recs) == 0 && wantUna(t) == wantTop(t)
	if n := len(t.Recs); n > 0 {
		row = t.Recs[0].From == wantUna(t) && t.Recs[n-1].To == wantTop(t) && t.Recs[n-1].Fin == (t.FinSent && !t.Sure)
	}
	switch {
	case wantValid(t.Config) != 0, !isFrom(t.Now, 0, lastNow):
	case ring.Check(t.Ring) != 0, board.Check(t.Recs) != 0, rtt.Check(t.Rtt) != 0, filter.Check(t.Low, false) != 0:
	case rack.Check(t.Rack) != 0, prr.Check(t.Prr) != 0, cc.Check(t.Cc) != 0, rate.Check(t.Rate) != 0:
	case pacer.Check(t.Pacer) != 0, window.Check(t.Window) != 0, timer.Check(t.Timers) != 0:
	case t.Cc.Kind != t.Config.Cc, t.Cc.Mss != t.Config.Mss:
	case !isFrom(t.Next, t.Ring.Base, end):
	case t.FinSent && !t.Ring.Closed, t.FinSent && t.Next != end:
	case t.Sure && !t.FinSent, t.Sure && t.Ring.Base != end:
	case !row:
	case !isFrom(int(t.Phase), 1, 3), !isFrom(t.High, 0, maxOffset+1), !isFrom(t.Peer, 0, maxOffset+1):
	case !isFrom(t.Quota, 0, maxSize), !isFrom(t.LastAt, 0, t.Now):
	default:
		return api.OK
	}
	return api.ErrState
}

// plain is a sender at one step.
type plain struct {
	t     api.Tcp
	o     api.Out
	ahead bool
}

// wantStep follows P23.3's words. What it answers may share memory with t.
func wantStep(t api.Tcp, in api.In) (api.Tcp, api.Out) {
	if wantCheck(t) != 0 {
		return api.Tcp{}, api.Out{Err: 230}
	}
	if in.Now < t.Now || in.Now > lastNow || !isFrom(int(in.Kind), 1, 4) {
		return t, api.Out{Err: 2}
	}
	p := plain{t: t}
	// Records are changed in place here and there.
	p.t.Recs = append([]api.Rec(nil), t.Recs...)
	p.t.Now = in.Now
	switch in.Kind {
	case api.InWrite:
		r, n, e := ring.Write(p.t.Ring, in.Data)
		p.o.Taken, p.o.Err = n, e
		if e == 0 {
			p.t.Ring = r
		}
	case api.InClose:
		r, e := ring.Close(p.t.Ring)
		p.o.Err = e
		if e == 0 {
			p.t.Ring = r
		}
	case api.InSegment:
		p.comes(in.Data)
	}
	p.timers()
	p.sending()
	p.set()
	return p.t, p.o
}

// comes follows P23.4's words.
func (p *plain) comes(data []byte) {
	s, e := wire.Get(data, 2, 1)
	if e != 0 {
		return
	}
	c := p.t.Config
	var a api.Asked
	a.Una, a.Next, a.Iss, a.Peer, a.Irs = wantUna(p.t), wantTop(p.t), c.Iss, p.t.Peer, c.Irs
	a.Stamps, a.Recent, a.Now, a.Sacks = c.Stamps, p.t.Recent, uint32(p.t.Now%(1<<32)), c.Sacks
	h := ack.Weigh(a, s)
	if !h.Counts {
		return
	}
	if c.Stamps {
		p.t.Recent = h.Recent
	}
	if h.Old {
		return
	}
	// 1
	win := h.Win
	for range c.Shift {
		win *= 2
	}
	if w, e := window.Told(p.t.Window, h.At, min(h.Ack, maxOffset), win); e == 0 {
		p.t.Window = w
	}
	// 2
	p.ahead = h.Ack > wantUna(p.t)
	var delivered []api.Rec
	left, gone, e := board.Ack(p.t.Recs, h.Ack)
	if e == 0 {
		p.t.Recs = left
	}
	for _, x := range gone {
		if !x.Sacked {
			delivered = append(delivered, x)
		}
	}
	if l, fresh, e := board.Sack(p.t.Recs, h.Spans); e == 0 {
		p.t.Recs = l
		delivered = append(delivered, fresh...)
	}
	end := ring.End(p.t.Ring)
	if r, e := ring.Release(p.t.Ring, min(h.Ack, end)); e == 0 {
		p.t.Ring = r
	}
	if p.t.FinSent && h.Ack > end {
		p.t.Sure = true
	}
	p.time(h, gone)
	shortest := p.shortest()
	// 4
	q, sample, e := rate.Given(p.t.Rate, delivered, p.t.Now, shortest)
	if e == 0 {
		p.t.Rate = q
	}
	sample.Flight = min(board.Pipe(p.t.Recs), maxSize)
	for _, x := range delivered {
		if k, e := rack.Given(p.t.Rack, x, p.t.Now, shortest); e == 0 {
			p.t.Rack = k
		}
	}
	if h.Twice {
		if k, e := rack.Again(p.t.Rack, h.Ack, wantTop(p.t)); e == 0 {
			p.t.Rack = k
		}
	}
	// 5
	if p.ahead {
		p.t.Probing = false
	}
	// 6
	phase := p.t.Phase
	lost := p.loss()
	// 7
	p.byPhase(phase, h.Ack, sample, len(delivered) > 0, lost)
	// 8
	if b, e := pacer.Fill(p.t.Pacer, p.t.Now); e == 0 {
		p.t.Pacer = b
	}
	if b, e := pacer.Set(p.t.Pacer, cc.Pace(p.t.Cc, p.t.Rtt.Srtt, c.Floor)); e == 0 {
		p.t.Pacer = b
	}
}

// time follows P23.4's third point.
func (p *plain) time(h api.Heard, gone []api.Rec) {
	took := 0
	if h.Rtt > 0 {
		took = h.Rtt
	} else if !p.t.Config.Stamps && len(gone) > 0 {
		last := gone[len(gone)-1]
		if last.Tx == 1 && !last.Sacked && p.t.Now-last.Sent > 0 {
			took = p.t.Now - last.Sent
		}
	}
	if took > 0 {
		if r, e := rtt.Sample(p.t.Rtt, took); e == 0 {
			p.t.Rtt = r
		}
		if len(p.t.Low) == 0 || p.t.Low[len(p.t.Low)-1].At < p.t.Now {
			if l, e := filter.Put(p.t.Low, p.t.Now, took, 300000000, false); e == 0 {
				p.t.Low = l
			}
		}
	} else if p.ahead {
		if r, e := rtt.Calm(p.t.Rtt); e == 0 {
			p.t.Rtt = r
		}
	}
}

// shortest is Best of Low.
func (p *plain) shortest() int {
	if v, ok := filter.Best(p.t.Low); ok {
		return v
	}
	return 0
}

// acked is Cc Acked.
func (p *plain) acked(sample api.Sample) {
	if c, e := cc.Acked(p.t.Cc, sample, p.t.Rtt.Srtt); e == 0 {
		p.t.Cc = c
	}
}

// given is Prr Given, and what it makes of Quota.
func (p *plain) given(n int, safe bool) {
	pipe := min(board.Pipe(p.t.Recs), maxSize)
	if q, may, e := prr.Given(p.t.Prr, n, pipe, p.t.Cc.Ssthresh, p.t.Config.Mss, safe); e == 0 {
		p.t.Prr, p.t.Quota = q, min(may, maxSize)
	}
}

// calm is Rack Calm.
func (p *plain) calm() {
	if k, e := rack.Calm(p.t.Rack); e == 0 {
		p.t.Rack = k
	}
}

// byPhase follows P23.4's seventh point.
func (p *plain) byPhase(phase api.Phase, acked int, sample api.Sample, some, lost bool) {
	switch phase {
	case api.Recovery:
		if acked >= p.t.High {
			p.t.Phase = api.Open
			if c, e := cc.Done(p.t.Cc); e == 0 {
				p.t.Cc = c
			}
			p.calm()
			p.t.Quota = 0
		} else {
			p.given(min(sample.Acked, maxSize), p.ahead && !lost)
		}
		if p.t.Config.Cc == api.Bbr {
			p.acked(sample)
		}
	case api.Open:
		if p.t.Phase == api.Open && some {
			p.acked(sample)
		}
	case api.Loss:
		if some {
			p.acked(sample)
		}
		if acked >= p.t.High {
			p.t.Phase = api.Open
			p.calm()
		}
	}
}

// lostNow counts records that are Lost and not Again.
func (p *plain) lostNow() int {
	n := 0
	for _, x := range p.t.Recs {
		if x.Lost && !x.Again {
			n++
		}
	}
	return n
}

// loss follows the words of how loss is looked for.
func (p *plain) loss() bool {
	before := p.lostNow()
	wait, _ := rack.Reorder(p.t.Rack, p.shortest(), p.t.Rtt.Srtt, p.t.Phase == api.Open, board.Sacked(p.t.Recs))
	l, n, e := rack.Mark(p.t.Rack, p.t.Recs, p.t.Now, wait)
	if e == 0 {
		p.t.Recs = l
	}
	if n > 0 {
		p.start(api.TimReorder, p.t.Now+n)
	} else {
		p.stop(api.TimReorder)
	}
	if p.lostNow() <= before {
		return false
	}
	if p.t.Phase != api.Open {
		return true
	}
	flight := min(wantTop(p.t)-wantUna(p.t), maxSize)
	p.t.Phase, p.t.High = api.Recovery, wantTop(p.t)
	if q, e := prr.Begin(flight); e == 0 {
		p.t.Prr = q
	}
	if c, e := cc.Loss(p.t.Cc, flight); e == 0 {
		p.t.Cc = c
	}
	p.given(0, false)
	return true
}

// start is layer 4's Set.
func (p *plain) start(kind api.TimerKind, at int) {
	if l, e := timer.Set(p.t.Timers, kind, at); e == 0 {
		p.t.Timers = l
	}
}

// stop is layer 4's Stop.
func (p *plain) stop(kind api.TimerKind) {
	if l, e := timer.Stop(p.t.Timers, kind); e == 0 {
		p.t.Timers = l
	}
}

// runs tells whether a timer runs.
func (p *plain) runs(kind api.TimerKind) bool {
	_, ok := timer.When(p.t.Timers, kind)
	return ok
}

// timers follows P23.5's words.
func (p *plain) timers() {
	for range 16 {
		x, ok := timer.Due(p.t.Timers, p.t.Now)
		if !ok {
			return
		}
		p.stop(x.Kind)
		if x.Kind == api.TimReorder {
			p.loss()
		}
		if x.Kind == api.TimProbe && p.t.Phase == api.Open && !p.t.Probing && len(p.t.Recs) > 0 {
			p.t.Probing = true
			c, ok, e := seg.Next(p.want(p.t.Config.Mss, false))
			if ok && e == 0 && len(p.t.Recs) < 65536 {
				p.sendNew(c, api.WhyProbe)
			} else {
				p.sendAgain(len(p.t.Recs)-1, api.WhyProbe)
			}
		}
		if x.Kind == api.TimResend && len(p.t.Recs) > 0 {
			p.timeout()
		}
		if x.Kind == api.TimPersist && len(p.t.Recs) == 0 {
			if w, e := window.Tried(p.t.Window); e == 0 {
				p.t.Window = w
			}
			if c, ok, e := seg.Next(p.want(0, true)); ok && e == 0 {
				p.sendNew(c, api.WhyPersist)
			}
		}
	}
}

// timeout is what TimResend does.
func (p *plain) timeout() {
	if r, e := rtt.Back(p.t.Rtt); e == 0 {
		p.t.Rtt = r
	}
	if c, e := cc.Timeout(p.t.Cc, min(wantTop(p.t)-wantUna(p.t), maxSize)); e == 0 {
		p.t.Cc = c
	}
	if l, e := board.Drop(p.t.Recs); e == 0 {
		p.t.Recs = l
	}
	p.t.Phase, p.t.High, p.t.Quota, p.t.Probing = api.Loss, wantTop(p.t), 0, false
	p.sendAgain(0, api.WhyTimeout)
}

// want is what layer 9 is asked.
func (p *plain) want(room int, force bool) api.Want {
	var w api.Want
	w.Next, w.End, w.Closed, w.Fin = p.t.Next, ring.End(p.t.Ring), p.t.Ring.Closed, p.t.FinSent
	w.Edge, w.Una, w.Mss, w.Room = window.Right(p.t.Window), wantUna(p.t), p.t.Config.Mss, room
	w.Most, w.Nagle, w.Force = p.t.Window.Most, p.t.Config.Nagle, force
	return w
}

// more tells whether there is something to send.
func (p *plain) more() bool {
	return p.t.Next < ring.End(p.t.Ring) || p.t.Ring.Closed && !p.t.FinSent
}

// sending follows P23.6's words.
func (p *plain) sending() {
	for p.one() {
	}
	if pipe := board.Pipe(p.t.Recs); p.t.Next == ring.End(p.t.Ring) && pipe < p.t.Cc.Cwnd {
		if q, e := rate.Idle(p.t.Rate, pipe); e == 0 {
			p.t.Rate = q
		}
	}
}

// one sends one segment, if one may go.
func (p *plain) one() bool {
	pipe := board.Pipe(p.t.Recs)
	prrs := p.t.Phase == api.Recovery && p.t.Config.Cc != api.Bbr
	room := p.t.Cc.Cwnd - pipe
	if prrs {
		room = p.t.Quota
	}
	if at := board.Lost(p.t.Recs); at >= 0 {
		n := p.t.Recs[at].To - p.t.Recs[at].From
		if n > room && (pipe != 0 || prrs) {
			return false
		}
		if p.waits(n) {
			return false
		}
		p.count(prrs, n)
		p.sendAgain(at, api.WhyAgain)
		return true
	}
	if len(p.t.Recs) >= 65536 {
		return false
	}
	if idle := p.t.Now - p.t.LastAt; len(p.t.Recs) == 0 && p.more() && idle > p.t.Rtt.Rto {
		if c, e := cc.Rest(p.t.Cc, idle, p.t.Rtt.Rto, p.t.Config.First*p.t.Config.Mss); e == 0 {
			p.t.Cc = c
		}
		if !prrs {
			room = p.t.Cc.Cwnd - pipe
		}
	}
	c, ok, e := seg.Next(p.want(room, false))
	if !ok || e != 0 {
		return false
	}
	n := c.To - c.From
	if c.Fin {
		n++
	}
	if p.waits(n) {
		return false
	}
	p.count(prrs, n)
	p.sendNew(c, api.WhyNew)
	return true
}

// waits tells whether what would go waits.
func (p *plain) waits(n int) bool {
	if !p.t.Config.Pace {
		return false
	}
	if b, e := pacer.Fill(p.t.Pacer, p.t.Now); e == 0 {
		p.t.Pacer = b
	}
	if pacer.May(p.t.Pacer, n) {
		return false
	}
	if at, e := pacer.When(p.t.Pacer, n); e == 0 {
		p.start(api.TimPace, at)
	}
	return true
}

// count takes bytes off Quota.
func (p *plain) count(prrs bool, n int) {
	if !prrs {
		return
	}
	p.t.Quota = max(0, p.t.Quota-n)
	if q, e := prr.Sent(p.t.Prr, n); e == 0 {
		p.t.Prr = q
	}
}

// sendNew sends a segment of new data.
func (p *plain) sendNew(c api.Cut, why api.Why) {
	x := api.Rec{From: c.From, To: c.To, Fin: c.Fin, Sent: p.t.Now, Tx: 1}
	if c.Fin {
		x.To++
	}
	pipe := board.Pipe(p.t.Recs)
	q, y, e := rate.Sent(p.t.Rate, x, p.t.Now, pipe == 0)
	if e == 0 {
		p.t.Rate, x = q, y
	}
	if l, e := board.Send(p.t.Recs, x); e == 0 {
		p.t.Recs = l
	}
	p.t.Next = c.To
	if c.Fin {
		p.t.FinSent = true
	}
	p.sent(x, why, pipe)
}

// sendAgain sends a record's segment again.
func (p *plain) sendAgain(at int, why api.Why) {
	pipe := board.Pipe(p.t.Recs)
	if l, e := board.Again(p.t.Recs, at, p.t.Now); e == 0 {
		p.t.Recs = l
	}
	if q, y, e := rate.Sent(p.t.Rate, p.t.Recs[at], p.t.Now, pipe == 0); e == 0 {
		p.t.Rate, p.t.Recs[at] = q, y
	}
	p.sent(p.t.Recs[at], why, pipe)
}

// sent follows the words of how a segment is sent.
func (p *plain) sent(x api.Rec, why api.Why, pipe int) {
	c := p.t.Config
	to := x.To
	var s api.Segment
	s.SrcPort, s.DstPort, s.Flags, s.Win, s.Mss, s.Scale = 1, 2, 16, 65535, -1, -1
	s.Seq, s.Ack = seq.Add(c.Iss, x.From), seq.Add(c.Irs, p.t.Peer)
	if x.Fin {
		s.Flags++
		to--
	}
	if to > x.From && to == ring.End(p.t.Ring) {
		s.Flags += 8
	}
	if c.Stamps {
		s.Stamped, s.Val, s.Ecr = true, uint32(p.t.Now%(1<<32)), p.t.Recent
	}
	s.Data, _ = ring.Slice(p.t.Ring, x.From, to)
	b, _ := wire.Put(s, 1, 2)
	p.t.LastAt = p.t.Now
	if c.Pace && (why == api.WhyNew || why == api.WhyAgain) {
		if k, e := pacer.Take(p.t.Pacer, x.To-x.From); e == 0 {
			p.t.Pacer = k
		}
	}
	var out api.Sent
	out.Data, out.Why, out.From, out.To = b, why, x.From, x.To
	out.Pipe, out.Cwnd, out.Edge = pipe, p.t.Cc.Cwnd, window.Right(p.t.Window)
	p.o.Sent = append(p.o.Sent, out)
}

// set follows P23.7's words.
func (p *plain) set() {
	n := len(p.t.Recs)
	if n == 0 {
		p.stop(api.TimReorder)
		p.stop(api.TimProbe)
		p.stop(api.TimResend)
	}
	if n > 0 && (!p.runs(api.TimResend) || p.ahead) {
		p.start(api.TimResend, p.t.Now+p.t.Rtt.Rto)
	}
	if n > 0 && p.t.Phase == api.Open && !p.t.Probing && (len(p.o.Sent) > 0 || p.ahead) {
		p.start(api.TimProbe, p.t.Now+rack.Probe(p.t.Rtt.Srtt, p.t.Rtt.Rto, n == 1))
	}
	if n > 0 && p.t.Phase != api.Open {
		p.stop(api.TimProbe)
	}
	if n == 0 && p.more() && !p.runs(api.TimPace) {
		if !p.runs(api.TimPersist) {
			p.start(api.TimPersist, p.t.Now+window.Wait(p.t.Window, p.t.Rtt.Rto, p.t.Config.Low, p.t.Config.High))
		}
	} else {
		p.stop(api.TimPersist)
	}
}
