package link

import (
	"bytes"
	"slices"

	"tideway/api"
)

// What a link answers is new memory, down to its bytes: whoever changes that changes nothing here.

// renewed answers what is on its way.
func (p path) renewed() []api.Datagram {
	l := slices.Clone(p)
	for i := range l {
		l[i].Data = bytes.Clone(l[i].Data)
	}
	return l
}

// renewedSent answers what was sent.
func renewedSent(l []api.Sent) []api.Sent {
	l = slices.Clone(l)
	for i := range l {
		l[i].Data = bytes.Clone(l[i].Data)
	}
	return l
}

// renewedTcp answers a sender.
func renewedTcp(t api.Tcp) api.Tcp {
	t.Ring.Data = bytes.Clone(t.Ring.Data)
	t.Recs = slices.Clone(t.Recs)
	t.Low = slices.Clone(t.Low)
	t.Cc.Bw = slices.Clone(t.Cc.Bw)
	t.Timers = slices.Clone(t.Timers)
	return t
}

// renewedRecv answers a receiver.
func renewedRecv(r api.Recv) api.Recv {
	r.Unread = bytes.Clone(r.Unread)
	r.First = slices.Clone(r.First)
	r.Late = slices.Clone(r.Late)
	for i := range r.Late {
		r.Late[i].Data = bytes.Clone(r.Late[i].Data)
	}
	return r
}
