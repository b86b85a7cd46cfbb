package sender

import (
	"tideway/api"
	"tideway/board"
	"tideway/cc"
	"tideway/pacer"
	"tideway/prr"
	"tideway/rate"
	"tideway/ring"
	"tideway/seg"
	"tideway/seq"
	"tideway/timer"
	"tideway/window"
	"tideway/wire"
)

// unsent is the place of what has no record yet.
const unsent = -1

// parcel is what goes, or would go: a segment's place in the stream, and its record's in Recs.
type parcel struct {
	api.Cut
	at int
}

// end answers the number behind a parcel's last one: the end has one, too.
func (p parcel) end() int { return numbers(p.To, p.Fin) }

// bytes answers how many bytes a parcel counts for, as layers 10 and 17 count its record's.
func (p parcel) bytes() int { return p.end() - p.From }

// first answers the segment of new data that layer 9 gives, if any.
func first(want api.Want) (parcel, bool) {
	c, ok, e := seg.Next(want)
	return parcel{Cut: c, at: unsent}, ok && e == api.OK
}

// send sends all that may go: what is lost ahead of what is new.
func (w *work) send() {
	// Nothing is lost while others go, and each adds its bytes to the pipe: neither is asked anew for each.
	pipe, lost := w.pipe(), w.lost()
sending:
	for {
		p, why, ok := w.next(pipe, lost)
		if !ok || w.waits(p.bytes()) {
			break sending
		}
		w.spend(p.bytes())
		w.emit(p, why, pipe)
		pipe += p.bytes()
		if why == api.WhyAgain {
			lost = lost[1:]
		}
	}
	if w.Next == ring.End(w.Ring) && pipe < w.Cc.Cwnd {
		keep(&w.Rate)(rate.Idle(w.Rate, pipe))
	}
}

// lost answers the places of the records that are lost, and not sent again.
func (w *work) lost() []int {
	var places []int
	for i, x := range w.Recs {
		if x.Lost && !x.Again {
			places = append(places, i)
		}
	}
	return places
}

// next answers what would go now, and why, if anything may.
func (w *work) next(pipe int, lost []int) (parcel, api.Why, bool) {
	if len(lost) > 0 {
		p := w.old(lost[0])
		return p, api.WhyAgain, p.bytes() <= w.room(pipe) || pipe == 0 && !w.isMetered()
	}
	w.rest()
	p, ok := w.fresh(w.room(pipe))
	return p, api.WhyNew, ok
}

// isMetered tells whether layer 14 says how much goes.
func (w *work) isMetered() bool { return w.Phase == api.Recovery && w.Cc.Kind != api.Bbr }

// room answers how many bytes may go, beside those on their way.
func (w *work) room(pipe int) int {
	if w.isMetered() {
		return w.Quota
	}
	return w.Cc.Cwnd - pipe
}

// rest lets the controller know where nothing was sent for so long that its window says little of the path.
func (w *work) rest() {
	idle := w.Now - w.LastAt
	if len(w.Recs) == 0 && w.hasMore() && idle > w.Rtt.Rto {
		keep(&w.Cc)(cc.Rest(w.Cc, idle, w.Rtt.Rto, w.Config.First*w.Config.Mss))
	}
}

// hasMore tells whether there is something that was never sent.
func (w *work) hasMore() bool {
	return w.Next < ring.End(w.Ring) || w.Ring.Closed && !w.FinSent
}

// fresh answers a segment of new data for so much room, if one may go and there is a place for its record.
func (w *work) fresh(room int) (parcel, bool) {
	if len(w.Recs) >= api.MaxRecs {
		return parcel{}, false
	}
	return first(w.want(room))
}

// want answers what could go next.
func (w *work) want(room int) api.Want {
	return api.Want{
		Next: w.Next, End: ring.End(w.Ring), Closed: w.Ring.Closed, Fin: w.FinSent,
		Edge: window.Right(w.Window), Una: w.una(), Mss: w.Config.Mss,
		Room: room, Most: w.Window.Most, Nagle: w.Config.Nagle,
	}
}

// old answers a record's segment, to be sent again.
func (w *work) old(at int) parcel {
	x := w.Recs[at]
	c := api.Cut{From: x.From, To: x.To, Fin: x.Fin}
	if x.Fin {
		// A record counts the end's number, a cut does not.
		c.To--
	}
	return parcel{Cut: c, at: at}
}

// waits tells whether the pacer holds so many bytes back. If it does, a timer says when they may go.
func (w *work) waits(bytes int) bool {
	if !w.Config.Pace {
		return false
	}
	keep(&w.Pacer)(pacer.Fill(w.Pacer, w.Now))
	if pacer.May(w.Pacer, bytes) {
		return false
	}
	if at, e := pacer.When(w.Pacer, bytes); e == api.OK {
		keep(&w.Timers)(timer.Set(w.Timers, api.TimPace, at))
	}
	return true
}

// spend counts bytes that go in a recovery.
func (w *work) spend(bytes int) {
	if w.isMetered() {
		w.Quota = max(w.Quota-bytes, 0)
		keep(&w.Prr)(prr.Sent(w.Prr, bytes))
	}
}

// emit sends a segment, beside so many bytes on their way.
func (w *work) emit(p parcel, why api.Why, pipe int) {
	w.out.Sent = append(w.out.Sent, api.Sent{
		Data: w.segment(p.Cut), Why: why, From: p.From, To: p.end(),
		Pipe: pipe, Cwnd: w.Cc.Cwnd, Edge: window.Right(w.Window),
	})
	if p.at == unsent {
		w.record(p, pipe == 0)
	} else {
		w.renew(p.at, pipe == 0)
	}
	w.LastAt = w.Now
	if w.Config.Pace && (why == api.WhyNew || why == api.WhyAgain) {
		keep(&w.Pacer)(pacer.Take(w.Pacer, p.bytes()))
	}
}

// segment answers the bytes of a segment.
func (w *work) segment(c api.Cut) []byte {
	s := api.Segment{
		SrcPort: own, DstPort: peer,
		Seq: seq.Add(w.Config.Iss, c.From), Ack: seq.Add(w.Config.Irs, w.Peer),
		Flags: api.Ack, Win: mostWin, Mss: -1, Scale: -1,
	}
	keep(&s.Data)(ring.Slice(w.Ring, c.From, c.To))
	if c.From < c.To && c.To == ring.End(w.Ring) {
		s.Flags |= api.Psh
	}
	if c.Fin {
		s.Flags |= api.Fin
	}
	if w.Config.Stamps {
		s.Stamped, s.Val, s.Ecr = true, uint32(w.Now), w.Recent
	}
	var b []byte
	keep(&b)(wire.Put(s, own, peer))
	return b
}

// record has a segment of new data sent: what is new begins behind it.
func (w *work) record(p parcel, none bool) {
	x := api.Rec{From: p.From, To: p.end(), Fin: p.Fin, Sent: w.Now, Tx: 1}
	keepBoth(&w.Rate, &x)(rate.Sent(w.Rate, x, w.Now, none))
	// It may stand there: it begins where the last one ends, and there is a place for it. By layer 10's Send each of many
	// would copy all those ahead of it.
	w.Recs = append(w.Recs, x)
	w.Next = p.To
	w.FinSent = w.FinSent || p.Fin
}

// renew has a record sent again.
func (w *work) renew(at int, none bool) {
	keep(&w.Recs)(board.Again(w.Recs, at, w.Now))
	keepBoth(&w.Rate, &w.Recs[at])(rate.Sent(w.Rate, w.Recs[at], w.Now, none))
}
