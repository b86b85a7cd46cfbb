package link_test

import (
	"tideway/api"
	"tideway/net"
	"tideway/recv"
	"tideway/sender"
	"tideway/wire"
)

// plain is a link as the chapter's words say it, one by one.
type plain struct {
	now      int
	tcp      api.Tcp
	recv     api.Recv
	forth    []api.Datagram
	back     []api.Datagram
	accepted int
	read     []byte
	sent     []api.Sent
}

// newPlain answers a fresh one, of a Config that may be.
func newPlain(c api.Config) *plain {
	t, _ := sender.New(c)
	r, _ := recv.New(c.Rcv, c.Shift, c.Iss, c.Irs, c.Stamps, c.Sacks)
	return &plain{tcp: t, recv: r}
}

// see answers all that it tells.
func (p *plain) see() seen {
	v := api.View{
		Now: p.now, Accepted: p.accepted, Read: len(p.read), Forth: len(p.forth), Back: len(p.back),
		Sure: p.tcp.Sure, Done: p.recv.Done && len(p.recv.Unread) == 0,
	}
	return seen{v, p.tcp, p.recv, p.forth, p.back, p.sent, p.read}
}

// step is a Step of the sender at the time now.
func (p *plain) step(kind api.InKind, data []byte) api.Errno {
	t, o := sender.Step(p.tcp, api.In{Kind: kind, Now: p.now, Data: data})
	p.tcp, p.sent = t, o.Sent
	p.accepted += o.Taken
	for _, x := range o.Sent {
		if l, e := net.Send(p.forth, x.Data, p.now); e == api.OK {
			p.forth = l
		}
	}
	return o.Err
}

// answer sends back what the receiver tells.
func (p *plain) answer(s api.Segment, ok bool) {
	if !ok {
		return
	}
	s.SrcPort, s.DstPort = 2, 1
	b, e := wire.Put(s, 2, 1)
	if e != api.OK {
		panic("an answer that may not be")
	}
	if l, e := net.Send(p.back, b, p.now); e == api.OK {
		p.back = l
	}
}

// do does an event.
func (p *plain) do(e api.Event) api.Errno {
	p.sent = nil
	switch e.Kind {
	case api.EvWrite:
		return p.step(api.InWrite, e.Data)
	case api.EvClose:
		return p.step(api.InClose, nil)
	case api.EvTick:
		if e.At < 0 || e.At > 1<<40 || p.now > 1<<49-e.At {
			return api.ErrArg
		}
		p.now += e.At
		return p.step(api.InTick, nil)
	case api.EvForge:
		return p.step(api.InSegment, e.Data)
	case api.EvRead:
		r, b, s, ok, _ := recv.Read(p.recv, e.At)
		p.recv = r
		p.read = append(p.read, b...)
		p.answer(s, ok)
		return api.OK
	}
	return p.flight(e)
}

// flight does an event to what is in flight.
func (p *plain) flight(e api.Event) api.Errno {
	var d api.Datagram
	l, l2, no := p.forth, p.back, api.ErrEvent
	switch e.Kind {
	case api.EvForth, api.EvLose:
		d, l, no = net.Take(p.forth, e.At)
	case api.EvBack, api.EvLoseAck:
		d, l2, no = net.Take(p.back, e.At)
	case api.EvDouble:
		l, no = net.Double(p.forth, e.At)
	case api.EvDoubleAck:
		l2, no = net.Double(p.back, e.At)
	case api.EvSpoil:
		l, no = net.Spoil(p.forth, e.At, e.Draw)
	case api.EvSpoilAck:
		l2, no = net.Spoil(p.back, e.At, e.Draw)
	}
	if no != api.OK {
		return no
	}
	p.forth, p.back = l, l2
	switch e.Kind {
	case api.EvForth:
		if s, e := wire.Get(d.Data, 1, 2); e == api.OK {
			r, a, ok, _ := recv.Input(p.recv, s)
			p.recv = r
			p.answer(a, ok)
		}
	case api.EvBack:
		return p.step(api.InSegment, d.Data)
	}
	return api.OK
}
