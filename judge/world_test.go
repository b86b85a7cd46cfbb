package judge_test

import (
	"fmt"
	"reflect"
	"slices"
	"testing"

	"tideway/api"
	"tideway/judge"
	"tideway/wire"
)

const (
	most    = 1 << 50 // of offsets
	size    = 1 << 30
	fastest = 1 << 40
	late    = 1 << 45 // of Paced's times
	million = 1000000
)

// dice throws numbers that look like chance and are the same each time.
type dice struct{ state uint64 }

// below answers a number from 0 on, below n.
func (d *dice) below(n int) int {
	d.state = d.state*6364136223846793005 + 1442695040888963407
	return int(d.state>>33) % n
}

// of answers one of some numbers.
func (d *dice) of(l ...int) int { return l[d.below(len(l))] }

// bytes answers n bytes, each one of some few.
func (d *dice) bytes(n, few int) []byte {
	b := make([]byte, n)
	for i := range b {
		b[i] = byte(d.below(few))
	}
	return b
}

// turn answers places up to n in an order that was thrown.
func (d *dice) turn(n int) []int {
	l := make([]int, n)
	for i := range l {
		l[i] = i
	}
	for i := range l {
		k := i + d.below(n-i)
		l[i], l[k] = l[k], l[i]
	}
	return l
}

// at answers one that was sent for some offsets, without bytes.
func at(from, to int) api.Sent { return api.Sent{From: from, To: to, Why: api.WhyNew} }

// log answers those for some pairs of offsets.
func log(ends ...int) []api.Sent {
	var l []api.Sent
	for i := 0; i < len(ends); i += 2 {
		l = append(l, at(ends[i], ends[i+1]))
	}
	return l
}

// spans answers a row by its ends.
func spans(ends ...int) []api.Span {
	var l []api.Span
	for i := 0; i < len(ends); i += 2 {
		l = append(l, api.Span{From: ends[i], To: ends[i+1]})
	}
	return l
}

// put answers the bytes of a segment with some data, from address 1 to 2.
func put(data []byte) []byte { return putFrom(data, 1, 2) }

// putFrom answers the bytes of a segment between some addresses.
func putFrom(data []byte, src, dst uint32) []byte {
	b, e := wire.Put(api.Segment{SrcPort: 1, DstPort: 2, Flags: api.Ack, Mss: -1, Scale: -1, Data: data}, src, dst)
	if e != api.OK {
		panic("a segment that may not be")
	}
	return b
}

// carry answers one that carries data at an offset.
func carry(from int, data string) api.Sent {
	return api.Sent{Data: put([]byte(data)), Why: api.WhyNew, From: from, To: from + len(data)}
}

// piece answers a piece.
func piece(from int, data string) api.Piece { return api.Piece{From: from, Data: []byte(data)} }

// alike tells whether two lists are the same: nil and empty ones are.
func alike[T any](a, b []T) bool {
	return len(a) == 0 && len(b) == 0 || reflect.DeepEqual(a, b)
}

// copied answers the same log in other memory.
func copied(l []api.Sent) []api.Sent {
	l = slices.Clone(l)
	for i := range l {
		l[i].Data = slices.Clone(l[i].Data)
	}
	return l
}

// spoil writes over a list, and over what room it has behind its end.
func spoil[T any](l []T, x T) {
	l = l[:cap(l)]
	for i := range l {
		l[i] = x
	}
}

// short answers a value's text, as much of it as is read.
func short(x any) string {
	text := fmt.Sprint(x)
	return text[:min(len(text), 500)]
}

// wantBytes asks for pieces, and whether there are any.
func wantBytes(t *testing.T, l []api.Sent, want []api.Piece, wantOk bool) {
	t.Helper()
	was := copied(l)
	got, ok := judge.Bytes(l)
	if ok != wantOk || !alike(got, want) {
		t.Fatalf("Bytes of %s: %s, %v; want %s, %v", short(l), short(got), ok, short(want), wantOk)
	}
	if !alike(l, was) {
		t.Fatalf("Bytes changed the log %s: %s", short(was), short(l))
	}
}
