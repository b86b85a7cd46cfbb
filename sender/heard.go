package sender

import (
	"slices"

	"tideway/ack"
	"tideway/api"
	"tideway/board"
	"tideway/cc"
	"tideway/filter"
	"tideway/pacer"
	"tideway/prr"
	"tideway/rack"
	"tideway/rate"
	"tideway/ring"
	"tideway/rtt"
	"tideway/window"
	"tideway/wire"
)

// keptTime is how long the shortest round trip is believed, in microseconds.
const keptTime = 300000000

// The addresses that checksums count, the sender's own and the peer's: its ports are the same numbers.
const (
	own  = 1
	peer = 2
)

// hear takes in the bytes of a segment from the peer, if they are one that counts.
func (w *work) hear(data []byte) {
	s, e := wire.Get(data, peer, own)
	if e != api.OK {
		return
	}
	h := ack.Weigh(w.asked(), s)
	if !h.Counts {
		return
	}
	if w.Config.Stamps {
		w.Recent = h.Recent
	}
	if !h.Old {
		w.learn(h)
	}
}

// asked answers what the sender knows when a segment comes.
func (w *work) asked() api.Asked {
	return api.Asked{
		Una: w.una(), Next: w.top(), Iss: w.Config.Iss,
		Peer: w.Peer, Irs: w.Config.Irs,
		Stamps: w.Config.Stamps, Recent: w.Recent, Now: uint32(w.Now),
		Sacks: w.Config.Sacks,
	}
}

// learn knows what a segment tells, one thing behind the other.
func (w *work) learn(h api.Heard) {
	keep(&w.Window)(window.Told(w.Window, h.At, min(h.Ack, api.MaxOffset), h.Win<<w.Config.Shift))
	gone, delivered := w.settle(h)
	w.clock(h.Rtt, gone)
	sample := w.measure(delivered)
	if h.Twice {
		keep(&w.Rack)(rack.Again(w.Rack, h.Ack, w.top()))
	}
	if w.ahead {
		w.Probing = false
	}
	phase := w.Phase
	lost := w.seekLoss()
	switch phase {
	case api.Recovery:
		w.goOn(h.Ack, sample, w.ahead && !lost)
	case api.Open:
		if w.Phase == api.Open && len(delivered) > 0 {
			w.acked(sample)
		}
	case api.Loss:
		w.repair(h.Ack, sample, len(delivered) > 0)
	}
	keep(&w.Pacer)(pacer.Fill(w.Pacer, w.Now))
	keep(&w.Pacer)(pacer.Set(w.Pacer, cc.Pace(w.Cc, w.Rtt.Srtt, w.Config.Floor)))
}

// settle lets go what is acknowledged, and marks what came out of order. It answers the records that are gone, and all
// that were delivered just now.
func (w *work) settle(h api.Heard) (gone, delivered []api.Rec) {
	var fresh []api.Rec
	w.ahead = h.Ack > w.una()
	keepBoth(&w.Recs, &gone)(board.Ack(w.Recs, h.Ack))
	keepBoth(&w.Recs, &fresh)(board.Sack(w.Recs, h.Spans))
	end := ring.End(w.Ring)
	keep(&w.Ring)(ring.Release(w.Ring, min(h.Ack, end)))
	w.Sure = w.FinSent && h.Ack > end
	for _, x := range gone {
		// What was sacked was delivered by then.
		if !x.Sacked {
			delivered = append(delivered, x)
		}
	}
	return gone, slices.Concat(delivered, fresh)
}

// clock knows how long a round trip took: by its stamp, or by the last record that is gone.
func (w *work) clock(stamped int, gone []api.Rec) {
	took := stamped
	if took <= 0 && !w.Config.Stamps {
		took = w.since(gone)
	}
	if took <= 0 {
		if w.ahead {
			keep(&w.Rtt)(rtt.Calm(w.Rtt))
		}
		return
	}
	keep(&w.Rtt)(rtt.Sample(w.Rtt, took))
	if n := len(w.Low); n == 0 || w.Low[n-1].At < w.Now {
		keep(&w.Low)(filter.Put(w.Low, w.Now, took, keptTime, least))
	}
}

// since answers how long ago the last of the records was sent, 0 where that says nothing of the path: nobody knows which
// sending of several was acknowledged, and what was sacked came long ago.
func (w *work) since(gone []api.Rec) int {
	n := len(gone)
	if n == 0 || gone[n-1].Tx != 1 || gone[n-1].Sacked {
		return 0
	}
	return w.Now - gone[n-1].Sent
}

// shortest answers the shortest round trip of late, 0 without any.
func (w *work) shortest() int {
	v, _ := filter.Best(w.Low)
	return v
}

// measure tells the layers that go by deliveries of those, and answers what they say of the path.
func (w *work) measure(delivered []api.Rec) api.Sample {
	var sample api.Sample
	keepBoth(&w.Rate, &sample)(rate.Given(w.Rate, delivered, w.Now, w.shortest()))
	sample.Flight = size(w.pipe())
	for _, x := range delivered {
		keep(&w.Rack)(rack.Given(w.Rack, x, w.Now, w.shortest()))
	}
	return sample
}

// acked lets the controller know of a sample.
func (w *work) acked(sample api.Sample) {
	keep(&w.Cc)(cc.Acked(w.Cc, sample, w.Rtt.Srtt))
}

// goOn goes on in a recovery, or ends it, if all is acknowledged that was sent ahead of it.
func (w *work) goOn(acked int, sample api.Sample, safe bool) {
	if acked >= w.High {
		w.calm()
		w.Quota = 0
		keep(&w.Cc)(cc.Done(w.Cc))
	} else {
		w.allow(size(sample.Acked), safe)
	}
	// BBR goes by rates, which a recovery has as any other time.
	if w.Cc.Kind == api.Bbr {
		w.acked(sample)
	}
}

// repair goes on behind a timeout, until all is acknowledged that was sent ahead of it.
func (w *work) repair(acked int, sample api.Sample, some bool) {
	if some {
		w.acked(sample)
	}
	if acked >= w.High {
		w.calm()
	}
}

// calm ends what a loss began.
func (w *work) calm() {
	w.Phase = api.Open
	keep(&w.Rack)(rack.Calm(w.Rack))
}

// allow lets so much go in a recovery as n bytes that were delivered leave room for.
func (w *work) allow(n int, safe bool) {
	var quota int
	e := keepBoth(&w.Prr, &quota)(prr.Given(w.Prr, n, size(w.pipe()), w.Cc.Ssthresh, w.Config.Mss, safe))
	if e == api.OK {
		w.Quota = size(quota)
	}
}

// seekLoss marks what is lost by now, and tells whether something is. The first loss begins a recovery.
func (w *work) seekLoss() bool {
	wait, left, ahead := 0, 0, len(w.lost())
	keep(&wait)(rack.Reorder(w.Rack, w.shortest(), w.Rtt.Srtt, w.Phase == api.Open, board.Sacked(w.Recs)))
	keepBoth(&w.Recs, &left)(rack.Mark(w.Rack, w.Recs, w.Now, wait))
	if left > 0 {
		w.set(api.TimReorder, left)
	} else {
		w.stop(api.TimReorder)
	}
	some := len(w.lost()) > ahead
	if some && w.Phase == api.Open {
		w.beginRecovery()
	}
	return some
}

// beginRecovery lets the controller know of a loss. Nothing was delivered yet: what goes first goes by layer 14.
func (w *work) beginRecovery() {
	flight := size(w.top() - w.una())
	w.Phase, w.High = api.Recovery, w.top()
	keep(&w.Prr)(prr.Begin(flight))
	keep(&w.Cc)(cc.Loss(w.Cc, flight))
	w.allow(0, false)
}
