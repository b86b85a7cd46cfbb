package recv

import (
	"bytes"
	"iter"
	"slices"

	"tideway/api"
	"tideway/span"
)

// spanOf answers the offsets that a piece has.
func spanOf(p api.Piece) api.Span { return api.Span{From: p.From, To: p.From + len(p.Data)} }

// rowOf answers the offsets that pieces have, a span each.
func rowOf(l []api.Piece) []api.Span {
	row := make([]api.Span, len(l))
	for i, p := range l {
		row[i] = spanOf(p)
	}
	return row
}

// lateEnd answers the end of what is Late, and Next where nothing is.
func lateEnd(r api.Recv) int {
	if len(r.Late) == 0 {
		return r.Next
	}
	return spanOf(r.Late[len(r.Late)-1]).To
}

// lateMayBe tells whether Late may be, of a receiver whose numbers may.
func lateMayBe(r api.Recv) bool {
	row := rowOf(r.Late)
	if span.Check(row) != api.OK {
		return false
	}
	return len(row) == 0 || row[0].From > r.Next && row[len(row)-1].To <= bound(r)
}

// firstMayBe tells whether First may be, of a receiver whose Late may.
func firstMayBe(r api.Recv) bool {
	seen := make([]bool, len(r.Late))
	for _, x := range r.First {
		i, found := holder(r.Late, x.From)
		if !found || seen[i] || spanOf(r.Late[i]) != x {
			return false
		}
		seen[i] = true
	}
	return true
}

// holder answers the place of the piece that has an offset, and whether there is one.
func holder(l []api.Piece, x int) (int, bool) {
	return slices.BinarySearchFunc(l, x, func(p api.Piece, x int) int {
		at := spanOf(p)
		switch {
		case at.To <= x:
			return -1
		case at.From > x:
			return 1
		}
		return 0
	})
}

// missing answers pieces of what a segment at those offsets has and the receiver has not and has room for, in order, as
// new memory.
func missing(r api.Recv, at api.Span, data []byte) []api.Piece {
	var fresh []api.Piece
	wanted := api.Span{From: max(at.From, r.Next), To: min(at.To, bound(r))}
	for _, gap := range span.Gaps(rowOf(r.Late), wanted) {
		fresh = append(fresh, api.Piece{From: gap.From, Data: bytes.Clone(data[gap.From-at.From : gap.To-at.From])})
	}
	return fresh
}

// filled answers the receiver that has fresh pieces too: what is in order now stands behind Unread.
func filled(r api.Recv, fresh []api.Piece) api.Recv {
	inOrder := func(p api.Piece) bool {
		if p.From != r.Next {
			return false
		}
		r.Unread = append(r.Unread, p.Data...)
		r.Next += len(p.Data)
		return true
	}
	r.Late = merged(both(r.Late, fresh), inOrder)
	return r
}

// both gives the pieces of two lists, each of them in order, in one order.
func both(a, b []api.Piece) iter.Seq[api.Piece] {
	return func(yield func(api.Piece) bool) {
		near, far := a, b
		for len(near) > 0 || len(far) > 0 {
			if len(near) == 0 || len(far) > 0 && far[0].From < near[0].From {
				near, far = far, near
			}
			if !yield(near[0]) {
				return
			}
			near = near[1:]
		}
	}
}

// merged answers those pieces that take does not take, such as touch made one. Their bytes are appended to: they must be
// nobody else's.
func merged(pieces iter.Seq[api.Piece], take func(api.Piece) bool) []api.Piece {
	var out []api.Piece
merge:
	for p := range pieces {
		last := len(out) - 1
		switch {
		case take(p):
			continue merge
		case last >= 0 && spanOf(out[last]).To == p.From:
			out[last].Data = append(out[last].Data, p.Data...)
			continue merge
		}
		out = append(out, p)
	}
	return out
}

// inTurn answers First behind a segment at those offsets: the spans that Late's pieces have now, each once, that of the
// segment's own ahead of all.
func inTurn(r api.Recv, at api.Span) []api.Span {
	var first []api.Span
	seen := make([]bool, len(r.Late))
	put := func(i int) {
		if !seen[i] {
			seen[i] = true
			first = append(first, spanOf(r.Late[i]))
		}
	}
	for i, p := range slices.Backward(r.Late) {
		if x := spanOf(p); max(x.From, at.From) < min(x.To, at.To) {
			put(i)
			break
		}
	}
	for _, x := range r.First {
		// Pieces only grow, and grow whole: the one that has the first of a span's offsets has all of them.
		if i, found := holder(r.Late, x.From); found {
			put(i)
		}
	}
	return first
}
