package recv_test

import (
	"bytes"
	"math"
	"slices"
	"testing"

	"tideway/api"
	"tideway/recv"
)

// at answers a segment of the stream from one offset up to another, for a receiver.
func at(r api.Recv, from, to int, flags int) api.Segment {
	return api.Segment{Seq: r.Irs + uint32(from), Flags: flags, Mss: -1, Scale: -1, Data: letters(from, to)}
}

// letters answers what text does, with something else below 0.
func letters(from, to int) []byte {
	b := bytes.Repeat([]byte{'-'}, max(0, min(to, 0)-from))
	return append(b, text(max(from, 0), to)...)
}

// wantInput follows P8.4's words, byte by byte, for a receiver that may be and segments within 2^31 of Next.
func wantInput(r api.Recv, s api.Segment) (api.Recv, api.Segment, bool) {
	if r.Stamps && !s.Stamped {
		return r, api.Segment{}, false
	}
	x := r.Next + int(int32(s.Seq-r.Irs-uint32(r.Next)))
	e := x + len(s.Data)
	if r.Stamps && r.Stamp && int32(s.Val-r.Recent) < 0 {
		next, answer := wantTell(r)
		return next, answer, true
	}
	if r.Stamps && x <= r.Next {
		r.Recent, r.Stamp = s.Val, true
	}
	limit := min(r.Next-len(r.Unread)+r.Cap, 1<<49)
	held := map[int]byte{}
	lateEnd := 0
	for _, p := range r.Late {
		for i, b := range p.Data {
			held[p.From+i] = b
			lateEnd = p.From + i + 1
		}
	}
	if s.Flags&1 == 1 && r.Fin == -1 && e >= r.Next && e >= lateEnd && e <= limit {
		r.Fin = e
	}
	anew := false
	for i, b := range s.Data {
		o := x + i
		if _, there := held[o]; !there && o >= r.Next && o < limit && (r.Fin == -1 || o < r.Fin) {
			held[o], anew = b, true
		}
	}
	r.Unread = bytes.Clone(r.Unread)
	for {
		b, there := held[r.Next]
		if !there {
			break
		}
		delete(held, r.Next)
		r.Unread = append(r.Unread, b)
		r.Next++
	}
	r.Late = runs(held)
	r.Done = r.Fin == r.Next
	r.First = wantFirst(r, x, e)
	var twice []api.Span
	if len(s.Data) > 0 && x >= 0 && !anew {
		twice = row(x, e)
	}
	next, answer := wantTell(r, twice...)
	return next, answer, true
}

// runs answers bytes at offsets as pieces.
func runs(held map[int]byte) []api.Piece {
	var offsets []int
	for o := range held {
		offsets = append(offsets, o)
	}
	slices.Sort(offsets)
	var out []api.Piece
	for i, o := range offsets {
		if i == 0 || offsets[i-1] != o-1 {
			out = append(out, api.Piece{From: o})
		}
		p := &out[len(out)-1]
		p.Data = append(p.Data, held[o])
	}
	return out
}

// wantFirst follows what P8.4 says of First; r has what is Late now, and First as it was.
func wantFirst(r api.Recv, x, e int) []api.Span {
	var out []api.Span
	add := func(s api.Span) {
		if !slices.Contains(out, s) {
			out = append(out, s)
		}
	}
	var own []api.Span
	for _, p := range r.Late {
		for i := range p.Data {
			if o := p.From + i; o >= x && o < e {
				own = row(p.From, p.From+len(p.Data))
			}
		}
	}
	for _, s := range own {
		add(s)
	}
	for _, f := range r.First {
		for _, p := range r.Late {
			if p.From <= f.From && f.To <= p.From+len(p.Data) {
				add(row(p.From, p.From+len(p.Data))[0])
			}
		}
	}
	return out
}

// input asks that a segment does what the words say, and answers the receiver behind it and what it answers.
func input(t *testing.T, r api.Recv, s api.Segment) (api.Recv, api.Segment) {
	t.Helper()
	next, answer, ok, e := recv.Input(r, s)
	want, wantAnswer, wantOk := wantInput(r, s)
	if e != api.OK || ok != wantOk || !same(next, want) || !alike(answer, wantAnswer) {
		t.Fatalf("Input(%v, %v) =\n%v, %v, %t, %d, want\n%v, %v, %t", r, s, next, answer, ok, e, want, wantAnswer, wantOk)
	}
	return next, answer
}

// hold asks for what a receiver holds, by hand: Next, Unread, Late, First.
func hold(t *testing.T, name string, r api.Recv, next int, unread string, late []api.Piece, first []api.Span) {
	t.Helper()
	want := r
	want.Next, want.Unread, want.Late, want.First = next, []byte(unread), late, first
	if !same(r, want) {
		t.Errorf("%s: %v, want %v", name, r, want)
	}
}

// P8.4: what is taken

func TestInputByHand(t *testing.T) {
	// Unread are hij; 12, 13 (mn) and 15 (p) are Late, that of 15 came last; there is room up to 17.
	for _, c := range []struct {
		name       string
		from, to   int
		next       int
		unread     string
		late       []api.Piece
		first      []api.Span
		ack        uint32
		sackedFrom []uint32
	}{
		{"in order", 10, 11, 11, "hijk", pieces(12, 14, 15, 16), row(15, 16, 12, 14), 111, []uint32{115, 112}},
		{"the gap", 10, 12, 14, "hijklmn", pieces(15, 16), row(15, 16), 114, []uint32{115}},
		{"half behind", 8, 12, 14, "hijklmn", pieces(15, 16), row(15, 16), 114, []uint32{115}},
		{"over both", 10, 15, 16, "hijklmnop", nil, nil, 116, nil},
		{"over all", 8, 17, 17, "hijklmnopq", nil, nil, 117, nil},
		{"past the limit", 10, 30, 17, "hijklmnopq", nil, nil, 117, nil},
		{"behind", 7, 10, 10, "hij", pieces(12, 14, 15, 16), row(15, 16, 12, 14), 110, []uint32{107, 115, 112}},
		{"far behind", 2, 5, 10, "hij", pieces(12, 14, 15, 16), row(15, 16, 12, 14), 110, []uint32{102, 115, 112}},
		{"touching ahead", 11, 12, 10, "hij", pieces(11, 14, 15, 16), row(11, 14, 15, 16), 110, []uint32{111, 115}},
		{"between two", 14, 15, 10, "hij", pieces(12, 16), row(12, 16), 110, []uint32{112}},
		{"touching behind", 16, 17, 10, "hij", pieces(12, 14, 15, 17), row(15, 17, 12, 14), 110, []uint32{115, 112}},
		{"over several", 11, 17, 10, "hij", pieces(11, 17), row(11, 17), 110, []uint32{111}},
		{"what is Late", 12, 14, 10, "hij", pieces(12, 14, 15, 16), row(12, 14, 15, 16), 110, []uint32{112, 112, 115}},
		{"a part of it", 13, 14, 10, "hij", pieces(12, 14, 15, 16), row(12, 14, 15, 16), 110, []uint32{113, 112, 115}},
		{"Late past the limit", 16, 19, 10, "hij", pieces(12, 14, 15, 17), row(15, 17, 12, 14), 110, []uint32{115, 112}},
		{"at the limit", 17, 19, 10, "hij", pieces(12, 14, 15, 16), row(15, 16, 12, 14), 110, []uint32{117, 115, 112}},
		{"no bytes", 10, 10, 10, "hij", pieces(12, 14, 15, 16), row(15, 16, 12, 14), 110, []uint32{115, 112}},
		{"no bytes amid a piece", 13, 13, 10, "hij", pieces(12, 14, 15, 16), row(15, 16, 12, 14), 110, []uint32{115, 112}},
		{"below 0", -2, 3, 10, "hij", pieces(12, 14, 15, 16), row(15, 16, 12, 14), 110, []uint32{115, 112}},
		{"from below 0", -2, 11, 11, "hijk", pieces(12, 14, 15, 16), row(15, 16, 12, 14), 111, []uint32{115, 112}},
	} {
		r, answer := input(t, some(), at(some(), c.from, c.to, api.Ack))
		hold(t, c.name, r, c.next, c.unread, c.late, c.first)
		var from []uint32
		for _, b := range answer.Sacks {
			from = append(from, b.From)
		}
		if answer.Ack != c.ack || !slices.Equal(from, c.sackedFrom) || r.Edge != 17 || r.Fin != -1 || r.Done {
			t.Errorf("%s: %v, Edge %d, Fin %d", c.name, answer, r.Edge, r.Fin)
		}
	}
}

// What is there stays, whatever else comes for its place.
func TestWhatIsThereStays(t *testing.T) {
	r, _ := input(t, some(), api.Segment{Seq: 108, Data: []byte("XXXXXXXXXXXX")})
	if string(r.Unread) != "hijXXmnXpX" || r.Next != 17 {
		t.Errorf("%q, Next %d", r.Unread, r.Next)
	}
	r, _ = input(t, some(), api.Segment{Seq: 111, Data: []byte("XXXXXX")})
	if len(r.Late) != 1 || string(r.Late[0].Data) != "XmnXpX" || r.Late[0].From != 11 {
		t.Errorf("%v", r.Late)
	}
}

// The bytes that go beyond the end, once that is known, are not taken.
func TestInputAndFin(t *testing.T) {
	known := with(func(r *api.Recv) { r.Fin = 16 })
	r, answer := input(t, known, at(known, 14, 30, 0))
	hold(t, "beyond Fin", r, 10, "hij", pieces(12, 16), row(12, 16))
	if len(answer.Sacks) != 1 {
		t.Errorf("%v", answer.Sacks)
	}
	r, answer = input(t, known, at(known, 16, 17, 0))
	hold(t, "at Fin", r, 10, "hij", pieces(12, 14, 15, 16), row(15, 16, 12, 14))
	if !slices.Equal(answer.Sacks, blocks(116, 117, 115, 116, 112, 114)) {
		t.Errorf("%v", answer.Sacks)
	}
	r, answer = input(t, known, at(known, 10, 40, 0))
	hold(t, "all", r, 16, "hijklmnop", nil, nil)
	if !r.Done || answer.Ack != 117 {
		t.Errorf("Done %t, Ack %d", r.Done, answer.Ack)
	}
	// The end is beyond the limit: what is taken ends there.
	r, _ = input(t, with(func(r *api.Recv) { r.Fin = 18 }), at(known, 10, 18, 0))
	if r.Next != 17 || r.Done {
		t.Errorf("Next %d, Done %t", r.Next, r.Done)
	}
	// One that is Done takes nothing more, nor another end.
	for from := 5; from < 14; from++ {
		for to := from; to < 14; to++ {
			r, answer = input(t, ended(), at(ended(), from, to, api.Fin))
			if !r.Done || r.Next != 10 || r.Fin != 10 || answer.Ack != 111 || string(r.Unread) != "hij" || len(answer.Sacks) != min(1, to-from) {
				t.Errorf("%d to %d: %v, %v", from, to, r, answer)
			}
		}
	}
}

// P8.4: Fin

func TestFin(t *testing.T) {
	for _, c := range []struct {
		name     string
		change   func(r *api.Recv)
		from, to int
		fin      int
		done     bool
	}{
		{"at Next, no bytes", alone, 10, 10, 10, true},
		{"at Next, bytes behind", alone, 8, 10, 10, true},
		{"ahead of Next", alone, 8, 9, -1, false},
		{"ahead of Next, no bytes", alone, 9, 9, -1, false},
		{"in order", alone, 10, 13, 13, true},
		{"later", alone, 12, 13, 13, false},
		{"later, no bytes", alone, 13, 13, 13, false},
		{"at the limit", alone, 10, 17, 17, true},
		{"at the limit, no bytes", alone, 17, 17, 17, false},
		{"beyond the limit", alone, 10, 18, -1, false},
		{"beyond the limit, no bytes", alone, 18, 18, -1, false},
		{"at Next, something Late", func(r *api.Recv) {}, 10, 10, -1, false},
		{"ahead of what is Late", func(r *api.Recv) {}, 10, 15, -1, false},
		{"at the end of what is Late", func(r *api.Recv) {}, 16, 16, 16, false},
		{"over all to there", func(r *api.Recv) {}, 10, 16, 16, true},
		{"beyond it", func(r *api.Recv) {}, 16, 17, 17, false},
		{"known before, the same", func(r *api.Recv) { r.Fin = 16 }, 16, 16, 16, false},
		{"known before, further on", func(r *api.Recv) { r.Fin = 16 }, 16, 17, 16, false},
		{"known before, nearer", func(r *api.Recv) { r.Fin = 17 }, 16, 16, 17, false},
		{"known beyond the limit", func(r *api.Recv) { r.Fin = 20 }, 10, 17, 20, false},
		{"at 2^49", func(r *api.Recv) { alone(r); r.Next = far }, far, far, far, true},
		{"up to 2^49", func(r *api.Recv) { alone(r); r.Next = far - 2 }, far - 2, far, far, true},
		{"beyond 2^49", func(r *api.Recv) { alone(r); r.Next = far - 2 }, far - 2, far + 1, -1, false},
		{"from below 0", func(r *api.Recv) { alone(r); r.Next, r.Unread, r.Edge = 0, nil, 0 }, -3, 0, 0, true},
		{"below 0", func(r *api.Recv) { alone(r); r.Next, r.Unread, r.Edge = 0, nil, 0 }, -3, -1, -1, false},
	} {
		before := with(c.change)
		for _, flags := range []int{api.Fin, api.Fin | api.Ack | api.Psh, 255, -1} {
			r, answer := input(t, before, at(before, c.from, c.to, flags))
			ack := uint32(100 + r.Next)
			if c.done {
				ack++
			}
			if r.Fin != c.fin || r.Done != c.done || answer.Ack != ack || recv.Check(r) != api.OK {
				t.Errorf("%s: Fin %d, Done %t, Ack %d", c.name, r.Fin, r.Done, answer.Ack)
			}
		}
		for _, flags := range []int{0, api.Ack, 254, api.Syn, api.Rst} {
			if r, _ := input(t, before, at(before, c.from, c.to, flags)); r.Fin != before.Fin {
				t.Errorf("%s, without the flag: Fin %d", c.name, r.Fin)
			}
		}
	}
}

// The end came first, then the bytes ahead of it: it is Done by the last of them.
func TestDoneAtLast(t *testing.T) {
	r, _ := recv.New(10, 0, 1<<32-2, 7, false, true)
	r, answer := input(t, r, at(r, 3, 5, api.Fin))
	if r.Done || r.Fin != 5 || answer.Ack != 1<<32-2 || !slices.Equal(answer.Sacks, blocks(1, 3)) {
		t.Errorf("%v, %v", r, answer)
	}
	r, answer = input(t, r, at(r, 0, 2, 0))
	if r.Done || answer.Ack != 0 {
		t.Errorf("%v, %v", r, answer)
	}
	r, answer = input(t, r, at(r, 2, 3, 0))
	if !r.Done || answer.Ack != 4 || string(r.Unread) != "abcde" || len(answer.Sacks) != 0 {
		t.Errorf("%v, %v", r, answer)
	}
}

// P8.4: timestamps

// With Stamps a segment without a timestamp is nothing.
func TestNotStamped(t *testing.T) {
	for _, known := range []bool{false, true} {
		r := stamped(9)
		r.Stamp = known
		for _, s := range []api.Segment{{}, at(r, 10, 12, 0), at(r, 10, 17, api.Fin), at(r, 7, 10, 0), {Seq: 110, Val: 10, Data: []byte("k")}} {
			next, answer, ok, e := recv.Input(r, s)
			if e != api.OK || ok || !same(next, r) || !alike(answer, api.Segment{}) {
				t.Errorf("Input(%v) = %v, %v, %t, %d", s, next, answer, ok, e)
			}
		}
	}
	// Without Stamps it makes no difference, and what stands there is not kept.
	s := at(some(), 10, 12, 0)
	plain, first := input(t, some(), s)
	s.Stamped, s.Val, s.Ecr = true, 5, 6
	r, second := input(t, some(), s)
	if !same(plain, r) || !alike(first, second) || r.Recent != 0 || r.Stamp {
		t.Errorf("%v and %v", plain, r)
	}
	r, answer := input(t, with(func(r *api.Recv) { r.Stamp, r.Recent = true, 9 }), s)
	if r.Next != 14 || r.Recent != 9 || answer.Stamped || answer.Ecr != 0 {
		t.Errorf("%v, %v", r, answer)
	}
}

func TestStamps(t *testing.T) {
	for _, c := range []struct {
		recent, val uint32
		stale       bool
	}{
		{5, 5, false}, {5, 6, false}, {5, 4, true}, {0, 0, false}, {0, 1<<32 - 1, true}, {1<<32 - 1, 0, false},
		{0, 1<<31 - 1, false}, {0, 1 << 31, true}, {0, 1<<31 + 1, true},
		{7, 1<<31 + 6, false}, {7, 1<<31 + 7, true}, {7, 1<<31 + 8, true},
		{1 << 31, 0, true}, {1 << 31, 1<<32 - 1, false}, {1<<32 - 5, 3, false}, {3, 1<<32 - 5, true},
	} {
		before := stamped(c.recent)
		s := at(before, 10, 12, api.Fin)
		s.Stamped, s.Val = true, c.val
		r, answer := input(t, before, s)
		want, next := c.val, 14
		if c.stale {
			want, next = c.recent, 10
		}
		if r.Recent != want || r.Next != next || answer.Ecr != want || !r.Stamp || !answer.Stamped || answer.Val != 0 {
			t.Errorf("Recent %d, Val %d: %v, %v", c.recent, c.val, r, answer)
		}
		// Not known yet: any will do.
		before.Stamp = false
		if r, _ := input(t, before, s); r.Recent != c.val || !r.Stamp || r.Next != 14 {
			t.Errorf("Recent %d not known, Val %d: %v", c.recent, c.val, r)
		}
	}
}

// One that is stale is answered as Tell does, with nothing of it: no block, no end; and Edge is told.
func TestStale(t *testing.T) {
	r := stamped(9)
	for _, s := range []api.Segment{at(r, 10, 12, 0), at(r, 7, 10, 0), at(r, 12, 14, 0), at(r, 16, 17, api.Fin), at(r, 10, 10, api.Fin), at(r, 100, 120, 0)} {
		s.Stamped, s.Val = true, 8
		next, answer := input(t, r, s)
		told, want := recv.Tell(r)
		if !same(next, told) || !alike(answer, want) || next.Edge != 17 || len(answer.Sacks) != 2 {
			t.Errorf("%v: %v, %v", s, next, answer)
		}
	}
}

// Recent is kept of segments at or behind Next alone.
func TestRecent(t *testing.T) {
	for _, known := range []bool{false, true} {
		for from := 5; from < 20; from++ {
			for n := range 4 {
				before := stamped(9)
				before.Stamp = known
				s := at(before, from, from+n, 0)
				s.Stamped, s.Val = true, 30
				r, answer := input(t, before, s)
				if want := from <= 10; (r.Recent == 30) != want || (answer.Ecr == 30) != want || r.Stamp != (want || known) {
					t.Errorf("from %d, %d bytes: %v, %v", from, n, r, answer)
				}
			}
		}
	}
}

// P8.4: First, and blocks of what came twice

// many answers a receiver with n pieces Late, the highest one first.
func many(n int, stamps bool) api.Recv {
	r := api.Recv{Next: 10, Cap: 100, Fin: -1, Irs: 1<<32 - 15, Stamps: stamps, Sacks: true}
	for i := range n {
		r.Late = append(r.Late, piece(12+4*i, 14+4*i))
		r.First = append(row(12+4*i, 14+4*i), r.First...)
	}
	return r
}

func TestTwiceOfMany(t *testing.T) {
	for n := range 7 {
		for _, stamps := range []bool{false, true} {
			most := 4
			if stamps {
				most = 3
			}
			r := many(n, stamps)
			s := at(r, 3, 8, 0)
			s.Stamped = stamps
			_, answer := input(t, r, s)
			if len(answer.Sacks) != min(n+1, most) || answer.Sacks[0] != blocks(1<<32-12, 1<<32-7)[0] {
				t.Fatalf("of %d: %v", n, answer.Sacks)
			}
			for i, b := range answer.Sacks[1:] {
				if from := r.Irs + uint32(r.First[i].From); b.From != from || b.To != from+2 {
					t.Fatalf("of %d: %v", n, answer.Sacks)
				}
			}
			r.Sacks = false
			if _, answer = input(t, r, s); len(answer.Sacks) != 0 {
				t.Fatalf("without Sacks: %v", answer.Sacks)
			}
		}
	}
}

// One byte of it that is new, and it is not one that came twice.
func TestHalfNew(t *testing.T) {
	for from := 5; from < 20; from++ {
		for to := from; to < 20; to++ {
			r, answer := input(t, some(), at(some(), from, to, 0))
			want := from < to
			for o := from; o < to; o++ {
				want = want && o != 10 && o != 11 && o != 14 && o != 16
			}
			if twice := len(answer.Sacks) == len(r.First)+1; twice != want {
				t.Errorf("%d to %d: %v", from, to, answer.Sacks)
			}
			if want && answer.Sacks[0] != blocks(100+uint32(from), 100+uint32(to))[0] {
				t.Errorf("%d to %d: %v", from, to, answer.Sacks)
			}
		}
	}
}

// Nothing below offset 0 is told as a block.
func TestTwiceBelowNought(t *testing.T) {
	r := bare(3, 10)
	r.Sacks = true
	for from := -4; from < 3; from++ {
		_, answer := input(t, r, at(r, from, 3, 0))
		if (len(answer.Sacks) == 1) != (from >= 0) {
			t.Errorf("from %d: %v", from, answer.Sacks)
		}
	}
}

func TestFirst(t *testing.T) {
	r := many(4, false) // 12, 16, 20, 24, each with 2 bytes
	steps := []struct {
		from, to int
		want     []api.Span
	}{
		{16, 17, row(16, 18, 24, 26, 20, 22, 12, 14)},
		{30, 31, row(30, 31, 16, 18, 24, 26, 20, 22, 12, 14)},
		{22, 24, row(20, 26, 30, 31, 16, 18, 12, 14)},
		{14, 16, row(12, 18, 20, 26, 30, 31)},
		{20, 30, row(20, 31, 12, 18)},
		{10, 12, row(20, 31)},
		{40, 42, row(40, 42, 20, 31)},
		{19, 43, row(19, 43)},
		{18, 19, nil},
	}
	for _, c := range steps {
		r, _ = input(t, r, at(r, c.from, c.to, 0))
		if !slices.Equal(r.First, c.want) {
			t.Fatalf("%d to %d: %v, want %v", c.from, c.to, r.First, c.want)
		}
	}
	// What is Late and not in First stays out of it, till some byte of it comes again.
	bare := with(func(r *api.Recv) { r.First = nil })
	r, _ = input(t, bare, at(bare, 10, 11, 0))
	if len(r.First) != 0 {
		t.Errorf("%v", r.First)
	}
	if r, _ = input(t, bare, at(bare, 15, 16, 0)); !slices.Equal(r.First, row(15, 16)) {
		t.Errorf("%v", r.First)
	}
}

// P8.4: ends of the world

func TestAtTheLimit(t *testing.T) {
	// A Next at the reach: nothing more goes in, and what came is told.
	full := with(func(r *api.Recv) { alone(r); r.Unread, r.Edge = text(0, 10), 10 })
	r, answer := input(t, full, at(full, 10, 11, 0))
	if r.Next != 10 || answer.Win != 0 || answer.Ack != 110 || !slices.Equal(answer.Sacks, blocks(110, 111)) {
		t.Errorf("%v, %v", r, answer)
	}
	// A Next at 2^49, with room in the buffer.
	last := bare(far, 10)
	if r, answer = input(t, last, at(last, far, far+3, 0)); r.Next != far || len(r.Unread) != 0 || answer.Win != 10 || r.Edge != far+10 {
		t.Errorf("%v, %v", r, answer)
	}
	// Bytes up to 2^49, and no further.
	last = bare(far-3, 10)
	if r, _ = input(t, last, at(last, far-5, far+5, 0)); r.Next != far || len(r.Unread) != 3 {
		t.Errorf("%v", r)
	}
	if r, _ = input(t, last, at(last, far-1, far+5, 0)); len(r.Late) != 1 || len(r.Late[0].Data) != 1 {
		t.Errorf("%v", r)
	}
}

// A sequence number stands for the offset nearest to Next.
func TestNearest(t *testing.T) {
	r := bare(1<<33, 10)
	r.Irs, r.Sacks = 77, true
	for _, c := range []struct {
		d    int
		next int
	}{{0, 1<<33 + 1}, {1, 1 << 33}, {1<<31 - 1, 1 << 33}, {-1, 1 << 33}, {-1 << 31, 1 << 33}, {1 << 32, 1<<33 + 1}, {-1 << 32, 1<<33 + 1}} {
		got, _ := input(t, r, api.Segment{Seq: 77 + uint32(r.Next+c.d), Data: []byte("z")})
		if got.Next != c.next {
			t.Errorf("%d off: Next %d", c.d, got.Next)
		}
	}
	// 2^31 off it is behind, as far from 0 as the offset is: at Next 2^31 less 1 it is below 0.
	for _, next := range []int{1<<31 - 1, 1 << 31, 1<<31 + 1} {
		r.Next = next
		_, answer := input(t, r, api.Segment{Seq: 77 + uint32(next) + 1<<31, Data: []byte("z")})
		if (len(answer.Sacks) == 1) != (next >= 1<<31) {
			t.Errorf("Next %d: %v", next, answer.Sacks)
		}
	}
}

// What is told of a segment beside Seq, Flags' Fin, Val and Data counts nothing.
func TestWhatDoesNotCount(t *testing.T) {
	s := at(some(), 11, 13, 0)
	want, first := input(t, some(), s)
	s.SrcPort, s.DstPort, s.Ack, s.Flags, s.Win, s.Urg = -1, math.MaxInt, 5, math.MinInt, -7, 1<<20
	s.Mss, s.Scale, s.SackOk, s.Ecr, s.Sacks = 0, 99, true, 8, blocks(1, 2, 3, 4)
	if r, answer := input(t, some(), s); !same(r, want) || !alike(answer, first) {
		t.Errorf("%v, %v", r, answer)
	}
}

// Every segment of a small world, at every receiver that may be of the lists, does what the words say.
func TestInputEverywhere(t *testing.T) {
	for _, r := range append(rightRecvs(), many(3, false), many(5, true)) {
		for from := r.Next - 6; from <= r.Next+12; from++ {
			for n := range 10 {
				for _, flags := range []int{0, api.Fin} {
					s := at(r, from, from+n, flags)
					s.Stamped, s.Val = true, r.Recent+uint32(n%3)-1
					next, _ := input(t, r, s)
					if recv.Check(next) != api.OK {
						t.Fatalf("Input(%v, %v) = %v, which may not be", r, s, next)
					}
				}
			}
		}
	}
}

// The chapter's example

func TestExample(t *testing.T) {
	r, e := recv.New(10, 0, 100, 7, false, true)
	if e != api.OK {
		t.Fatal(e)
	}
	r, answer := input(t, r, api.Segment{Seq: 102, Data: []byte("cd")})
	if answer.Ack != 100 || !slices.Equal(answer.Sacks, blocks(102, 104)) || len(r.Late) != 1 || string(r.Late[0].Data) != "cd" {
		t.Errorf("%v, %v", r, answer)
	}
	r, answer = input(t, r, api.Segment{Seq: 100, Data: []byte("ab")})
	if string(r.Unread) != "abcd" || answer.Ack != 104 || len(answer.Sacks) != 0 {
		t.Errorf("%v, %v", r, answer)
	}
}
