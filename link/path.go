package link

import (
	"slices"

	"tideway/api"
	"tideway/net"
)

// path is a network's one direction: what is on its way to one end. Layer 5 answers all that it is handed in new memory,
// so that it is handed the one datagram alone that is meant: else each event would take as long as all of them do.
type path []api.Datagram

// send sends bytes. Where there is no room they are lost, as in any network, and nobody is told.
func (p *path) send(data []byte, now int) {
	if p.isFull() {
		return
	}
	one, _ := net.Send(nil, data, now)
	*p = append(*p, one...)
}

// take takes a datagram off, and answers its bytes.
func (p *path) take(at int) ([]byte, api.Errno) {
	d, _, e := net.Take(p.meant(at))
	if e != api.OK {
		return nil, e
	}
	*p = slices.Delete(*p, at, at+1)
	return d.Data, api.OK
}

// lose loses a datagram.
func (p *path) lose(at int) api.Errno {
	_, e := p.take(at)
	return e
}

// double doubles a datagram.
func (p *path) double(at int) api.Errno {
	both, e := net.Double(p.meant(at))
	if e != api.OK {
		return e
	}
	if p.isFull() {
		return api.ErrFull
	}
	*p = append(*p, both[1])
	return api.OK
}

// spoil turns a bit of a datagram.
func (p *path) spoil(at int, bit int) api.Errno {
	one, first := p.meant(at)
	spoilt, e := net.Spoil(one, first, bit)
	copy(one, spoilt)
	return e
}

// meant answers the datagram at a place, and where it stands in that row. Of a place that there is none of it answers a
// row and a place that layer 5 refuses.
func (p *path) meant(at int) ([]api.Datagram, int) {
	if at < 0 || at >= len(*p) {
		return nil, at
	}
	return (*p)[at : at+1 : at+1], 0
}

// isFull tells whether no more may be on its way.
func (p *path) isFull() bool { return len(*p) >= api.MaxFlight }
