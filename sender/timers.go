package sender

import (
	"tideway/api"
	"tideway/board"
	"tideway/cc"
	"tideway/rack"
	"tideway/rtt"
	"tideway/timer"
	"tideway/window"
)

// mostServed is how many timers go off in one step at most.
const mostServed = 16

// servers answers what serves timers, by their kinds.
func servers() map[api.TimerKind]func(w *work) {
	return map[api.TimerKind]func(w *work){
		api.TimReorder: (*work).reorder,
		api.TimProbe:   (*work).probe,
		api.TimResend:  (*work).resend,
		api.TimPersist: (*work).persist,
		api.TimPace:    (*work).wake,
	}
}

// serveTimers lets the timers go off that are due.
func (w *work) serveTimers() {
	serve := servers()
	for range mostServed {
		x, isDue := timer.Due(w.Timers, w.Now)
		if !isDue {
			return
		}
		w.stop(x.Kind)
		serve[x.Kind](w)
	}
}

// reorder looks for what has had its time to come out of order.
func (w *work) reorder() { w.seekLoss() }

// probe asks the peer to tell what it has: where the last ones are lost, nothing behind them would make it do so.
func (w *work) probe() {
	if w.Phase != api.Open || w.Probing || len(w.Recs) == 0 {
		return
	}
	w.Probing = true
	p, ok := w.fresh(w.Config.Mss)
	if !ok {
		p = w.old(len(w.Recs) - 1)
	}
	w.emit(p, api.WhyProbe, w.pipe())
}

// resend takes all for lost that is on its way, and begins anew with the first.
func (w *work) resend() {
	if len(w.Recs) == 0 {
		return
	}
	keep(&w.Rtt)(rtt.Back(w.Rtt))
	keep(&w.Cc)(cc.Timeout(w.Cc, size(w.top()-w.una())))
	keep(&w.Recs)(board.Drop(w.Recs))
	w.Phase, w.High, w.Quota, w.Probing = api.Loss, w.top(), 0, false
	w.emit(w.old(0), api.WhyTimeout, w.pipe())
}

// persist asks whether the window is open again: the segment that said so may be lost.
func (w *work) persist() {
	if len(w.Recs) > 0 {
		return
	}
	keep(&w.Window)(window.Tried(w.Window))
	want := w.want(0)
	want.Force = true
	if p, ok := first(want); ok {
		w.emit(p, api.WhyPersist, w.pipe())
	}
}

// wake has nothing to do: sending follows whatever went off.
func (w *work) wake() {}

// setTimers sets the timers that what was done asks for.
func (w *work) setTimers() {
	if len(w.Recs) == 0 {
		w.stop(api.TimReorder)
		w.stop(api.TimProbe)
		w.stop(api.TimResend)
	} else {
		w.setResend()
		w.setProbe()
	}
	w.setPersist()
}

// setResend lets the wait for an acknowledgement begin, anew if there was one.
func (w *work) setResend() {
	if w.ahead || !w.runs(api.TimResend) {
		w.set(api.TimResend, w.Rtt.Rto)
	}
}

// setProbe lets the wait for a probe begin, in calm times alone.
func (w *work) setProbe() {
	switch {
	case w.Phase != api.Open:
		w.stop(api.TimProbe)
	case !w.Probing && (w.ahead || len(w.out.Sent) > 0):
		w.set(api.TimProbe, rack.Probe(w.Rtt.Srtt, w.Rtt.Rto, len(w.Recs) == 1))
	}
}

// setPersist lets the wait for a persist probe begin, where nothing else would send what is there.
func (w *work) setPersist() {
	switch {
	case len(w.Recs) > 0 || !w.hasMore() || w.runs(api.TimPace):
		w.stop(api.TimPersist)
	case !w.runs(api.TimPersist):
		w.set(api.TimPersist, window.Wait(w.Window, w.Rtt.Rto, w.Config.Low, w.Config.High))
	}
}

// runs tells whether a timer runs.
func (w *work) runs(kind api.TimerKind) bool {
	_, isSet := timer.When(w.Timers, kind)
	return isSet
}

// set sets a timer to a time from now.
func (w *work) set(kind api.TimerKind, wait int) {
	keep(&w.Timers)(timer.Set(w.Timers, kind, w.Now+wait))
}

// stop stops a timer.
func (w *work) stop(kind api.TimerKind) {
	keep(&w.Timers)(timer.Stop(w.Timers, kind))
}
