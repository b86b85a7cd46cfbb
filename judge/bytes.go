package judge

import (
	"iter"
	"slices"

	"tideway/api"
	"tideway/wire"
)

const (
	// src and dst are the addresses that a sender sends from and to.
	src = 1
	dst = 2
	// pageSize is how many bytes stand together: one for each bit of a uint64.
	pageSize = 64
)

// page is bytes that stand together, and which of them are known.
type page struct {
	known uint64
	data  [pageSize]byte
}

// pages is bytes by their offsets, each in the page at its offset by pageSize: a map of single bytes would take many times the room.
type pages map[int]*page

// Bytes answers the bytes that were sent.
func Bytes(l []api.Sent) ([]api.Piece, bool) {
	p := pages{}
	for _, x := range l {
		s, e := wire.Get(x.Data, src, dst)
		if e != api.OK || !isFromNought(x.From, api.MaxOffset) || !p.lay(x.From, s.Data) {
			return nil, false
		}
	}
	return p.pieces(), true
}

// lay lays bytes from an offset on. It answers false, where another byte stands already.
func (p pages) lay(from int, data []byte) bool {
	for i, b := range data {
		if !p.put(from+i, b) {
			return false
		}
	}
	return true
}

// put lays one byte.
func (p pages) put(x int, b byte) bool {
	at := p[x/pageSize]
	if at == nil {
		at = &page{}
		p[x/pageSize] = at
	}
	i := x % pageSize
	if at.knows(i) {
		return at.data[i] == b
	}
	at.known |= 1 << i
	at.data[i] = b
	return true
}

// knows tells whether a page's byte is known.
func (at *page) knows(i int) bool { return at.known>>i&1 == 1 }

// pieces answers all bytes, those that touch together.
func (p pages) pieces() []api.Piece {
	var l []api.Piece
	end := -1 // of the last piece: ahead of the first one nothing ends
	for x, b := range p.rising() {
		if x != end {
			l = append(l, api.Piece{From: x})
		}
		last := &l[len(l)-1]
		last.Data = append(last.Data, b)
		end = x + 1
	}
	return l
}

// rising gives all bytes with their offsets, the lowest first.
func (p pages) rising() iter.Seq2[int, byte] {
	return func(yield func(int, byte) bool) {
		for _, n := range p.numbers() {
			for i := range pageSize {
				if p[n].knows(i) && !yield(n*pageSize+i, p[n].data[i]) {
					return
				}
			}
		}
	}
}

// numbers answers which pages there are, rising.
func (p pages) numbers() []int {
	l := make([]int, 0, len(p))
	for n := range p {
		l = append(l, n)
	}
	slices.Sort(l)
	return l
}
