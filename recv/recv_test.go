package recv_test

import (
	"bytes"
	"math"
	"slices"
	"testing"

	"tideway/api"
	"tideway/recv"
)

// far is where offsets end for a receiver.
const far = 1 << 49

// text answers the bytes of a stream from one offset up to another: each offset has its own letter.
func text(from, to int) []byte {
	var b []byte
	for x := from; x < to; x++ {
		b = append(b, 'a'+byte(x%26))
	}
	return b
}

// piece answers a piece of the stream.
func piece(from, to int) api.Piece { return api.Piece{From: from, Data: text(from, to)} }

// row answers spans by their ends: From, To, From, To ..
func row(ends ...int) []api.Span {
	var l []api.Span
	for i := 0; i+1 < len(ends); i += 2 {
		l = append(l, api.Span{From: ends[i], To: ends[i+1]})
	}
	return l
}

// pieces answers pieces of the stream by their ends.
func pieces(ends ...int) []api.Piece {
	var l []api.Piece
	for _, s := range row(ends...) {
		l = append(l, piece(s.From, s.To))
	}
	return l
}

// blocks answers blocks by their ends.
func blocks(ends ...uint32) []api.Block {
	var l []api.Block
	for i := 0; i+1 < len(ends); i += 2 {
		l = append(l, api.Block{From: ends[i], To: ends[i+1]})
	}
	return l
}

// some answers a receiver that may be: offsets 7 to 9 are Unread, 12, 13 and 15 are Late, its reach and limit are 17.
func some() api.Recv {
	return api.Recv{
		Next: 10, Unread: text(7, 10), Late: pieces(12, 14, 15, 16), Cap: 10, Edge: 15, Fin: -1,
		First: row(15, 16, 12, 14), Irs: 100, Own: 7, Sacks: true,
	}
}

// with answers some receiver with a change.
func with(change func(r *api.Recv)) api.Recv {
	r := some()
	change(&r)
	return r
}

// bare answers a receiver that has nothing Late and nothing Unread.
func bare(next, room int) api.Recv {
	return api.Recv{Next: next, Cap: room, Fin: -1}
}

// stamped answers a receiver with Stamps whose Recent is known.
func stamped(recent uint32) api.Recv {
	return with(func(r *api.Recv) { r.Stamps, r.Stamp, r.Recent = true, true, recent })
}

// ended answers a receiver that is Done.
func ended() api.Recv {
	return api.Recv{Next: 10, Unread: text(7, 10), Cap: 10, Edge: 15, Fin: 10, Done: true, Irs: 100, Own: 7, Sacks: true}
}

// rightRecvs are receivers that may be.
func rightRecvs() []api.Recv {
	l := []api.Recv{
		some(), ended(), stamped(5), bare(0, 1), bare(0, 10), bare(far, 1), bare(far, 10), bare(far-1, 10), bare(0, api.MaxSize),
		bare(far, api.MaxSize),
	}
	for _, c := range rightChanges() {
		l = append(l, with(c.change))
	}
	return l
}

// wrongRecvs are receivers that may not be.
func wrongRecvs() []api.Recv {
	l := []api.Recv{{}, {Fin: -1}, bare(-1, 1), bare(far+1, 1), bare(math.MaxInt, 1), bare(math.MinInt, 1), bare(0, 0)}
	for _, c := range wrongChanges() {
		l = append(l, with(c.change))
	}
	return l
}

// change is what is done to some receiver.
type change struct {
	name   string
	change func(r *api.Recv)
}

// alone makes a receiver have nothing Late.
func alone(r *api.Recv) { r.Late, r.First = nil, nil }

// rightChanges are those behind which some receiver still may be.
func rightChanges() []change {
	return []change{
		{"Next 0", func(r *api.Recv) { alone(r); r.Next, r.Unread, r.Edge = 0, nil, 0 }},
		{"Next as Unread", func(r *api.Recv) { alone(r); r.Next, r.Edge = 3, 0 }},
		{"Next 2^49", func(r *api.Recv) { alone(r); r.Next = far }},
		{"Next at Late", func(r *api.Recv) { r.Next = 11 }},
		{"Cap 1", func(r *api.Recv) { alone(r); r.Cap, r.Unread, r.Edge = 1, text(9, 10), 10 }},
		{"Cap as Unread", func(r *api.Recv) { alone(r); r.Cap, r.Edge = 3, 10 }},
		{"Cap MaxSize", func(r *api.Recv) { r.Cap = api.MaxSize }},
		{"Shift 1", func(r *api.Recv) { r.Shift = 1 }},
		{"Shift 14", func(r *api.Recv) { r.Shift = 14 }},
		{"Unread of Cap bytes", func(r *api.Recv) { alone(r); r.Unread, r.Edge = text(0, 10), 10 }},
		{"Unread of nothing", func(r *api.Recv) { r.Unread = nil }},
		{"nothing Late", alone},
		{"Late from behind Next", func(r *api.Recv) { r.Late, r.First = pieces(11, 12), nil }},
		{"Late to the limit", func(r *api.Recv) { r.Late, r.First = pieces(11, 17), row(11, 17) }},
		{"Late to 2^49", func(r *api.Recv) {
			r.Next, r.Late, r.First = far-5, pieces(far-2, far), row(far-2, far)
		}},
		{"Late one apart", func(r *api.Recv) { r.Late, r.First = pieces(11, 12, 13, 14, 15, 16), row(13, 14) }},
		{"Late to Fin", func(r *api.Recv) { r.Fin = 16 }},
		{"Fin beyond the limit", func(r *api.Recv) { r.Fin = 18 }},
		{"Fin 2^49", func(r *api.Recv) { r.Fin = far }},
		{"Fin Next", func(r *api.Recv) { alone(r); r.Fin, r.Done = 10, true }},
		{"Fin above Next", func(r *api.Recv) { alone(r); r.Fin = 11 }},
		{"Edge 0", func(r *api.Recv) { r.Edge = 0 }},
		{"Edge at the reach", func(r *api.Recv) { r.Edge = 17 }},
		{"Edge at a reach beyond 2^49", func(r *api.Recv) { alone(r); r.Next, r.Edge = far, far+7 }},
		{"First of nothing", func(r *api.Recv) { r.First = nil }},
		{"First of one", func(r *api.Recv) { r.First = row(12, 14) }},
		{"First in order", func(r *api.Recv) { r.First = row(12, 14, 15, 16) }},
		{"other numbers", func(r *api.Recv) { r.Irs, r.Own, r.Recent, r.Stamp, r.Stamps = 1<<32-1, 1<<32-1, 1<<31, true, true }},
		{"no Sacks", func(r *api.Recv) { r.Sacks = false }},
	}
}

// wrongChanges are those behind which some receiver may not be.
func wrongChanges() []change {
	return slices.Concat([]change{
		{"Next below 0", func(r *api.Recv) { alone(r); r.Next, r.Unread, r.Edge = -1, nil, 0 }},
		{"Next least", func(r *api.Recv) { alone(r); r.Next, r.Edge = math.MinInt, 0 }},
		{"Next above 2^49", func(r *api.Recv) { alone(r); r.Next = far + 1 }},
		{"Next greatest", func(r *api.Recv) { alone(r); r.Next = math.MaxInt }},
		{"Cap 0", func(r *api.Recv) { alone(r); r.Cap, r.Unread, r.Edge = 0, nil, 10 }},
		{"Cap below 0", func(r *api.Recv) { alone(r); r.Cap, r.Unread, r.Edge = -1, nil, 0 }},
		{"Cap above MaxSize", func(r *api.Recv) { r.Cap = api.MaxSize + 1 }},
		{"Cap greatest", func(r *api.Recv) { r.Cap = math.MaxInt }},
		{"Cap least", func(r *api.Recv) { r.Cap = math.MinInt }},
		{"Shift -1", func(r *api.Recv) { r.Shift = -1 }},
		{"Shift 15", func(r *api.Recv) { r.Shift = 15 }},
		{"Shift 64", func(r *api.Recv) { r.Shift = 64 }},
		{"Shift greatest", func(r *api.Recv) { r.Shift = math.MaxInt }},
		{"Shift least", func(r *api.Recv) { r.Shift = math.MinInt }},
		{"Unread of more than Cap", func(r *api.Recv) { alone(r); r.Next, r.Unread, r.Edge = 20, text(9, 20), 0 }},
		{"Unread of more than Next", func(r *api.Recv) { alone(r); r.Next, r.Unread, r.Edge = 3, text(0, 4), 0 }},
		{"Unread at Next 0", func(r *api.Recv) { alone(r); r.Next, r.Unread, r.Edge = 0, text(0, 1), 0 }},
		{"Fin -2", func(r *api.Recv) { r.Fin = -2 }},
		{"Fin -2, nothing Late", func(r *api.Recv) { alone(r); r.Fin = -2 }},
		{"Fin least", func(r *api.Recv) { r.Fin = math.MinInt }},
		{"Fin 0", func(r *api.Recv) { alone(r); r.Fin = 0 }},
		{"Fin below Next", func(r *api.Recv) { alone(r); r.Fin = 9 }},
		{"Fin below Next, Done", func(r *api.Recv) { alone(r); r.Fin, r.Done = 9, true }},
		{"Fin above 2^49", func(r *api.Recv) { r.Fin = far + 1 }},
		{"Fin greatest", func(r *api.Recv) { r.Fin = math.MaxInt }},
		{"Edge -1", func(r *api.Recv) { r.Edge = -1 }},
		{"Edge least", func(r *api.Recv) { r.Edge = math.MinInt }},
		{"Edge beyond the reach", func(r *api.Recv) { r.Edge = 18 }},
		{"Edge greatest", func(r *api.Recv) { r.Edge = math.MaxInt }},
		{"Done, Fin not known", func(r *api.Recv) { alone(r); r.Done = true }},
		{"Done, Fin beyond Next", func(r *api.Recv) { alone(r); r.Fin, r.Done = 11, true }},
		{"not Done, Fin Next", func(r *api.Recv) { alone(r); r.Fin = 10 }},
		{"Done with something Late", func(r *api.Recv) { r.Fin, r.Done = 10, true }},
		{"Done at Late's end", func(r *api.Recv) { r.Fin, r.Done = 16, true }},
	}, wrongLate(), wrongFirst())
}

// late answers a change of what is Late, nothing of it in First.
func late(ends ...int) func(r *api.Recv) {
	return func(r *api.Recv) { r.Late, r.First = pieces(ends...), nil }
}

// wrongLate are changes of Late, which may not be.
func wrongLate() []change {
	return []change{
		{"a piece of no byte", late(12, 12)},
		{"a piece of no byte, of more", late(11, 12, 14, 14, 16, 17)},
		{"pieces that touch", late(12, 14, 14, 16)},
		{"pieces that overlap", late(12, 15, 14, 16)},
		{"pieces that fall", late(15, 16, 12, 14)},
		{"a piece twice", late(12, 14, 12, 14)},
		{"a piece at Next", late(10, 12)},
		{"a piece ahead of Next", late(9, 10)},
		{"a piece over Next", late(9, 12)},
		{"a piece beyond the limit", late(16, 18)},
		{"a piece at the limit", late(17, 18)},
		{"a piece far beyond", late(1000, 1001)},
		{"a piece below 0", func(r *api.Recv) { r.Late, r.First = []api.Piece{{From: -1, Data: []byte("a")}}, nil }},
		{"a piece at the least", func(r *api.Recv) { r.Late, r.First = []api.Piece{{From: math.MinInt, Data: []byte("a")}}, nil }},
		{"a piece at the greatest", func(r *api.Recv) { r.Late, r.First = []api.Piece{{From: math.MaxInt, Data: []byte("a")}}, nil }},
		{"a piece beyond 2^49", func(r *api.Recv) { r.Next, r.Late, r.First = far-3, pieces(far-1, far+1), nil }},
		{"a piece at 2^49", func(r *api.Recv) { r.Next, r.Late, r.First = far-3, pieces(far, far+1), nil }},
		{"a piece beyond Fin", func(r *api.Recv) { r.Fin = 15 }},
		{"a piece over Fin", func(r *api.Recv) { late(12, 15)(r); r.Fin = 14 }},
		{"Late at a Next at 2^49", func(r *api.Recv) { r.Next, r.Late, r.First = far, pieces(far+1, far+2), nil }},
	}
}

// wrongFirst are changes of First, which may not be.
func wrongFirst() []change {
	first := func(ends ...int) func(r *api.Recv) {
		return func(r *api.Recv) { r.First = row(ends...) }
	}
	return []change{
		{"a span of no piece", first(11, 12)},
		{"a span between pieces", first(14, 15)},
		{"a span twice", first(12, 14, 12, 14)},
		{"a span twice, apart", first(12, 14, 15, 16, 12, 14)},
		{"a span's beginning", first(12, 13)},
		{"a span's end", first(13, 14)},
		{"a span too long", first(12, 15)},
		{"a span too early", first(11, 14)},
		{"a span over two", first(12, 16)},
		{"a span of no offset", first(12, 12)},
		{"a span that falls", first(14, 12)},
		{"a zero span", first(0, 0)},
		{"a span at the greatest", first(math.MaxInt, math.MaxInt)},
		{"a span at the least", first(math.MinInt, math.MaxInt)},
		{"the last one wrong", first(15, 16, 12, 14, 7, 10)},
		{"First of nothing Late", func(r *api.Recv) { r.Late = nil }},
	}
}

// same tells whether two receivers are alike; nil and empty lists are.
func same(a, b api.Recv) bool {
	lists := bytes.Equal(a.Unread, b.Unread) && slices.Equal(a.First, b.First) && slices.EqualFunc(a.Late, b.Late, func(x, y api.Piece) bool {
		return x.From == y.From && bytes.Equal(x.Data, y.Data)
	})
	return lists && a.Next == b.Next && a.Cap == b.Cap && a.Shift == b.Shift && a.Edge == b.Edge && a.Recent == b.Recent &&
		a.Stamps == b.Stamps && a.Sacks == b.Sacks && a.Fin == b.Fin && a.Done == b.Done && a.Irs == b.Irs && a.Own == b.Own && a.Stamp == b.Stamp
}

// alike tells whether two segments are.
func alike(a, b api.Segment) bool {
	numbers := a.SrcPort == b.SrcPort && a.DstPort == b.DstPort && a.Seq == b.Seq && a.Ack == b.Ack && a.Flags == b.Flags &&
		a.Win == b.Win && a.Urg == b.Urg && a.Mss == b.Mss && a.Scale == b.Scale && a.Val == b.Val && a.Ecr == b.Ecr
	return numbers && a.SackOk == b.SackOk && a.Stamped == b.Stamped && slices.Equal(a.Sacks, b.Sacks) && bytes.Equal(a.Data, b.Data)
}

// P8.1

func TestCheck(t *testing.T) {
	for _, c := range rightChanges() {
		if e := recv.Check(with(c.change)); e != api.OK {
			t.Errorf("%s: Check = %d", c.name, e)
		}
	}
	for _, c := range wrongChanges() {
		if e := recv.Check(with(c.change)); e != 230 {
			t.Errorf("%s: Check = %d", c.name, e)
		}
	}
	for _, r := range rightRecvs() {
		if e := recv.Check(r); e != api.OK {
			t.Errorf("Check(%v) = %d", r, e)
		}
	}
	for _, r := range wrongRecvs() {
		if e := recv.Check(r); e != 230 {
			t.Errorf("Check(%v) = %d", r, e)
		}
	}
}

// A receiver that may not be is refused by all calls, with nothing beside.
func TestWrongRecvs(t *testing.T) {
	for _, r := range wrongRecvs() {
		for _, s := range []api.Segment{{}, {Seq: 110, Data: []byte("a")}, {Stamped: true}, {Flags: api.Fin}} {
			if x, answer, ok, e := recv.Input(r, s); !same(x, api.Recv{}) || !alike(answer, api.Segment{}) || ok || e != 230 {
				t.Errorf("Input(%v, %v) = %v, %v, %t, %d", r, s, x, answer, ok, e)
			}
		}
		for _, n := range []int{-1, 0, 1, 100} {
			if x, b, answer, ok, e := recv.Read(r, n); !same(x, api.Recv{}) || len(b) != 0 || !alike(answer, api.Segment{}) || ok || e != 230 {
				t.Errorf("Read(%v, %d) = %v, %q, %v, %t, %d", r, n, x, b, answer, ok, e)
			}
		}
		if x, answer := recv.Tell(r); !same(x, api.Recv{}) || !alike(answer, api.Segment{}) {
			t.Errorf("Tell(%v) = %v, %v", r, x, answer)
		}
		if n := recv.Window(r); n != 0 {
			t.Errorf("Window(%v) = %d", r, n)
		}
	}
}

// Long lists are checked without going through one for each of the other.
func TestLongLists(t *testing.T) {
	const n = 200000
	r := bare(0, api.MaxSize)
	for i := range n {
		r.Late = append(r.Late, api.Piece{From: 2*i + 1, Data: []byte{1}})
		r.First = append(r.First, api.Span{From: 2*i + 1, To: 2*i + 2})
	}
	slices.Reverse(r.First)
	x, answer, ok, e := recv.Input(r, api.Segment{Seq: 2 * n, Data: []byte("z")})
	if e != api.OK || !ok || len(x.Late) != n || len(x.First) != n || answer.Ack != 0 || x.First[0] != row(2*n-1, 2*n+1)[0] {
		t.Errorf("Input = %d late, %d first, %v, %t, %d", len(x.Late), len(x.First), answer, ok, e)
	}
	r.First[n-1] = r.First[0]
	if recv.Check(r) != 230 {
		t.Error("one twice is not refused")
	}
}

// P8.2

func TestNew(t *testing.T) {
	for _, size := range []int{math.MinInt, -1, 0, 1, 2, 10, 65535, 65536, api.MaxSize - 1, api.MaxSize, api.MaxSize + 1, math.MaxInt} {
		for _, shift := range []int{math.MinInt, -1, 0, 1, 7, 14, 15, 63, 64, math.MaxInt} {
			for bits := range 4 {
				stamps, sacks := bits&1 == 1, bits&2 == 2
				r, e := recv.New(size, shift, 100, 1<<32-1, stamps, sacks)
				if size < 1 || size > 1<<30 || shift < 0 || shift > 14 {
					if e != 2 || !same(r, api.Recv{}) {
						t.Fatalf("New(%d, %d) = %v, %d", size, shift, r, e)
					}
					continue
				}
				want := api.Recv{Cap: size, Shift: shift, Fin: -1, Irs: 100, Own: 1<<32 - 1, Stamps: stamps, Sacks: sacks}
				want.Edge = min(size/(1<<shift), 65535) * (1 << shift)
				if e != api.OK || !same(r, want) || recv.Check(r) != api.OK || recv.Window(r) != r.Edge {
					t.Fatalf("New(%d, %d) = %v, %d, want %v", size, shift, r, e, want)
				}
			}
		}
	}
}

func TestWindow(t *testing.T) {
	for _, c := range []struct{ room, unread, shift, want int }{
		{10, 0, 0, 10},
		{10, 3, 0, 7},
		{10, 9, 0, 1},
		{10, 10, 0, 0},
		{1, 0, 0, 1},
		{1, 1, 0, 0},
		{10, 0, 1, 10},
		{10, 3, 1, 6},
		{10, 3, 2, 4},
		{10, 3, 3, 0},
		{65535, 0, 0, 65535},
		{65536, 0, 0, 65535},
		{65536, 1, 0, 65535},
		{65536, 2, 0, 65534},
		{api.MaxSize, 0, 0, 65535},
		{131069, 0, 1, 131068},
		{131070, 0, 1, 131070},
		{131071, 0, 1, 131070},
		{131072, 0, 1, 131070},
		{1 << 14, 0, 14, 1 << 14},
		{1<<14 - 1, 0, 14, 0},
		{1 << 14, 1, 14, 0},
		{1<<15 - 1, 0, 14, 1 << 14},
		{65535 << 14, 0, 14, 65535 << 14},
		{65535<<14 - 1, 0, 14, 65534 << 14},
		{65535<<14 + 1, 0, 14, 65535 << 14},
		{api.MaxSize, 0, 14, 65535 << 14},
		{api.MaxSize, 1 << 14, 14, 65535 << 14},
		{api.MaxSize, 1<<14 + 1, 14, 65534 << 14},
	} {
		r := bare(1<<20, c.room)
		r.Unread, r.Shift = make([]byte, c.unread), c.shift
		if got := recv.Window(r); got != c.want {
			t.Errorf("Window of Cap %d, %d Unread, Shift %d = %d, want %d", c.room, c.unread, c.shift, got, c.want)
		}
	}
	// It is the buffer's, wherever offsets end and whatever is Late.
	if n := recv.Window(bare(far, 10)); n != 10 {
		t.Errorf("Window at 2^49 = %d", n)
	}
	if n := recv.Window(some()); n != 7 {
		t.Errorf("Window = %d", n)
	}
	if n := recv.Window(ended()); n != 7 {
		t.Errorf("Window of one that is Done = %d", n)
	}
}

// P8.3

// wantTell follows P8.3's words, with blocks of some spans ahead of First's.
func wantTell(r api.Recv, ahead ...api.Span) (api.Recv, api.Segment) {
	window := min((r.Cap-len(r.Unread))/(1<<r.Shift), 65535) * (1 << r.Shift)
	s := api.Segment{Seq: r.Own, Ack: r.Irs + uint32(r.Next), Flags: 16, Win: window / (1 << r.Shift), Mss: -1, Scale: -1}
	if r.Done {
		s.Ack++
	}
	most := 4
	if r.Stamps {
		s.Stamped, s.Ecr, most = true, r.Recent, 3
	}
	for _, x := range append(ahead, r.First...) {
		if r.Sacks && len(s.Sacks) < most {
			s.Sacks = append(s.Sacks, api.Block{From: r.Irs + uint32(x.From), To: r.Irs + uint32(x.To)})
		}
	}
	if r.Next+window > r.Edge {
		r.Edge = r.Next + window
	}
	return r, s
}

func TestTell(t *testing.T) {
	for _, r := range rightRecvs() {
		for bits := range 4 {
			r.Stamps, r.Sacks = bits&1 == 1, bits&2 == 2
			x, s := recv.Tell(r)
			y, want := wantTell(r)
			if !same(x, y) || !alike(s, want) {
				t.Errorf("Tell(%v) = %v, %v, want %v, %v", r, x, s, y, want)
			}
		}
	}
}

func TestTellByHand(t *testing.T) {
	r, s := recv.Tell(some())
	want := api.Segment{Seq: 7, Ack: 110, Flags: api.Ack, Win: 7, Mss: -1, Scale: -1, Sacks: blocks(115, 116, 112, 114)}
	if !alike(s, want) || r.Edge != 17 {
		t.Errorf("Tell = %v, Edge %d", s, r.Edge)
	}
	_, s = recv.Tell(ended())
	want = api.Segment{Seq: 7, Ack: 111, Flags: api.Ack, Win: 7, Mss: -1, Scale: -1}
	if !alike(s, want) {
		t.Errorf("Tell of one that is Done = %v", s)
	}
	_, s = recv.Tell(stamped(77))
	want = api.Segment{Seq: 7, Ack: 110, Flags: api.Ack, Win: 7, Mss: -1, Scale: -1, Stamped: true, Ecr: 77, Sacks: blocks(115, 116, 112, 114)}
	if !alike(s, want) {
		t.Errorf("Tell with Stamps = %v", s)
	}
	if _, s = recv.Tell(with(func(r *api.Recv) { r.Sacks = false })); len(s.Sacks) != 0 {
		t.Errorf("Tell without Sacks = %v", s)
	}
	// Numbers wrap: the end at 2^49 is one more than Irs.
	_, s = recv.Tell(api.Recv{Next: far, Cap: 4, Fin: far, Done: true, Irs: 1<<32 - 1})
	if s.Ack != 0 || s.Win != 4 {
		t.Errorf("Tell at 2^49 = %v", s)
	}
	// Win is in steps of 2^Shift.
	_, s = recv.Tell(with(func(r *api.Recv) { r.Cap, r.Shift = 100, 3 }))
	if s.Win != 12 {
		t.Errorf("Win = %d", s.Win)
	}
	_, s = recv.Tell(api.Recv{Cap: api.MaxSize, Shift: 14, Fin: -1})
	if s.Win != 65535 {
		t.Errorf("Win = %d", s.Win)
	}
}

// Of First no more is told than there are blocks: 4, with Stamps 3.
func TestTellOfMany(t *testing.T) {
	for n := range 7 {
		r := api.Recv{Cap: 100, Fin: -1, Irs: 1<<32 - 4, Sacks: true}
		var want []api.Block
		for i := range n {
			at := 2*i + 1
			r.Late = append(r.Late, piece(at, at+1))
			r.First = append(r.First, row(at, at+1)...)
			want = append(want, blocks(uint32(at)-4, uint32(at)-3)...)
		}
		if _, s := recv.Tell(r); !slices.Equal(s.Sacks, want[:min(n, 4)]) {
			t.Errorf("of %d: %v", n, s.Sacks)
		}
		r.Stamps = true
		if _, s := recv.Tell(r); !slices.Equal(s.Sacks, want[:min(n, 3)]) {
			t.Errorf("of %d with Stamps: %v", n, s.Sacks)
		}
	}
}

// Edge rises to Next and Window, and stays where it is beyond them.
func TestTellEdge(t *testing.T) {
	for _, c := range []struct{ edge, shift, want int }{
		{0, 0, 17}, {15, 0, 17}, {16, 0, 17}, {17, 0, 17},
		{0, 2, 14}, {13, 2, 14}, {14, 2, 14}, {15, 2, 15}, {17, 2, 17},
		{0, 14, 10}, {12, 14, 12},
	} {
		r, _ := recv.Tell(with(func(r *api.Recv) { r.Edge, r.Shift = c.edge, c.shift }))
		if r.Edge != c.want {
			t.Errorf("Edge %d, Shift %d: %d, want %d", c.edge, c.shift, r.Edge, c.want)
		}
	}
}
