package link

import (
	"tideway/api"
	"tideway/recv"
	"tideway/sender"
	"tideway/wire"
)

// The addresses that checksums count, the sender's and the receiver's: their ports are the same numbers.
const (
	nearEnd = 1
	farEnd  = 2
)

// step has something happen to the sender, and sends what that sends.
func (l *Link) step(kind api.InKind, data []byte) api.Errno { return l.stepAt(l.tcp.Now, kind, data) }

// stepAt is step at a time.
func (l *Link) stepAt(now int, kind api.InKind, data []byte) api.Errno {
	t, o := sender.Step(l.tcp, api.In{Kind: kind, Now: now, Data: data})
	l.tcp, l.sent = t, o.Sent
	l.accepted += o.Taken
	for _, x := range o.Sent {
		l.forth.send(x.Data, now)
	}
	return o.Err
}

// pass lets time pass.
func (l *Link) pass(time int) api.Errno {
	if time < 0 || time > longest || l.tcp.Now+time > lastNow {
		return api.ErrArg
	}
	return l.stepAt(l.tcp.Now+time, api.InTick, nil)
}

// toReceiver has a datagram come to the receiver, and sends back what that answers.
func (l *Link) toReceiver(at int) api.Errno {
	data, e := l.forth.take(at)
	if e != api.OK {
		return e
	}
	s, e := wire.Get(data, nearEnd, farEnd)
	if e != api.OK {
		// It came, and is no segment: nothing was wrong with the event.
		return api.OK
	}
	r, answer, tells, e := recv.Input(l.peer, s)
	l.peer = r
	l.reply(answer, tells)
	return e
}

// toSender has a datagram come to the sender.
func (l *Link) toSender(at int) api.Errno {
	data, e := l.back.take(at)
	if e != api.OK {
		return e
	}
	return l.step(api.InSegment, data)
}

// read has at most n bytes read.
func (l *Link) read(n int) api.Errno {
	r, data, answer, tells, e := recv.Read(l.peer, n)
	l.peer = r
	l.got = append(l.got, data...)
	l.reply(answer, tells)
	return e
}

// reply sends back what the receiver tells, if it does.
func (l *Link) reply(s api.Segment, tells bool) {
	if !tells {
		return
	}
	s.SrcPort, s.DstPort = farEnd, nearEnd
	// It is not refused: what a receiver tells has room in a header.
	b, _ := wire.Put(s, farEnd, nearEnd)
	l.back.send(b, l.tcp.Now)
}
