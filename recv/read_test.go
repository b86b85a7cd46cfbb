package recv_test

import (
	"bytes"
	"math"
	"slices"
	"testing"

	"tideway/api"
	"tideway/recv"
)

// wantRead follows P8.5's words.
func wantRead(r api.Recv, n int) (api.Recv, []byte, api.Segment, bool) {
	n = max(0, min(n, len(r.Unread)))
	data := r.Unread[:n]
	r.Unread = r.Unread[n:]
	window := min((r.Cap-len(r.Unread))/(1<<r.Shift), 65535) * (1 << r.Shift)
	if r.Next+window-r.Edge < max(1, r.Cap/2) {
		return r, data, api.Segment{}, false
	}
	next, answer := wantTell(r)
	return next, data, answer, true
}

// read asks that a Read does what the words say.
func read(t *testing.T, r api.Recv, n int) (api.Recv, []byte, api.Segment, bool) {
	t.Helper()
	next, data, answer, ok, e := recv.Read(r, n)
	want, wantData, wantAnswer, wantOk := wantRead(r, n)
	if e != api.OK || ok != wantOk || !same(next, want) || !bytes.Equal(data, wantData) || !alike(answer, wantAnswer) {
		t.Fatalf("Read(%v, %d) =\n%v, %q, %v, %t, %d, want\n%v, %q, %v, %t", r, n, next, data, answer, ok, e, want, wantData, wantAnswer, wantOk)
	}
	return next, data, answer, ok
}

// P8.5

func TestRead(t *testing.T) {
	counts := []int{math.MinInt, -1, 0, 1, 2, 3, 4, 5, 9, 10, 11, math.MaxInt}
	for _, r := range append(rightRecvs(), many(3, false), many(5, true)) {
		for _, n := range counts {
			for edge := max(0, r.Edge-8); edge <= r.Edge; edge++ {
				r.Edge = edge
				next, _, _, _ := read(t, r, n)
				if recv.Check(next) != api.OK {
					t.Fatalf("Read(%v, %d) = %v, which may not be", r, n, next)
				}
			}
		}
	}
}

func TestReadByHand(t *testing.T) {
	for _, c := range []struct {
		n    int
		data string
		left string
	}{{-1, "", "hij"}, {0, "", "hij"}, {1, "h", "ij"}, {2, "hi", "j"}, {3, "hij", ""}, {4, "hij", ""}, {math.MinInt, "", "hij"}, {math.MaxInt, "hij", ""}} {
		r, data, _, _ := read(t, some(), c.n)
		if string(data) != c.data {
			t.Errorf("Read of %d = %q", c.n, data)
		}
		hold(t, "Read", r, 10, c.left, pieces(12, 14, 15, 16), row(15, 16, 12, 14))
	}
}

// It tells its window where that has grown by half of Cap.
func TestReadTells(t *testing.T) {
	full := func(room, shift int) api.Recv {
		return api.Recv{Next: 100, Unread: text(100-room, 100), Cap: room, Shift: shift, Edge: 100, Fin: -1, Irs: 100, Own: 7}
	}
	for _, c := range []struct {
		room, shift, n int
		ok             bool
		edge           int
	}{
		{10, 0, 0, false, 100},
		{10, 0, 4, false, 100},
		{10, 0, 5, true, 105},
		{10, 0, 10, true, 110},
		{11, 0, 4, false, 100},
		{11, 0, 5, true, 105},
		{1, 0, 0, false, 100},
		{1, 0, 1, true, 101},
		{2, 0, 0, false, 100},
		{2, 0, 1, true, 101},
		{3, 0, 1, true, 101},
		{10, 1, 5, false, 100},
		{10, 1, 6, true, 106},
		{10, 3, 7, false, 100},
		{10, 3, 8, true, 108},
		{10, 4, 10, false, 100},
	} {
		r, data, answer, ok := read(t, full(c.room, c.shift), c.n)
		if ok != c.ok || r.Edge != c.edge || len(data) != c.n {
			t.Errorf("Cap %d, Shift %d, Read of %d: %t, Edge %d", c.room, c.shift, c.n, ok, r.Edge)
		}
		if ok && (answer.Ack != 200 || answer.Win != (c.edge-100)>>c.shift || answer.Seq != 7) {
			t.Errorf("Cap %d, Read of %d: %v", c.room, c.n, answer)
		}
	}
	// By steps: what was not told is told with the next.
	r := full(10, 0)
	for i, want := range []bool{false, true, false, true, false} {
		var ok bool
		if r, _, _, ok = read(t, r, []int{3, 2, 4, 1, 0}[i]); ok != want {
			t.Errorf("step %d: %t", i, ok)
		}
	}
	// An Edge that is behind is told, whether something is read or not.
	r = with(func(r *api.Recv) { r.Edge = 12 })
	if r, _, _, ok := read(t, r, 0); !ok || r.Edge != 17 {
		t.Errorf("%t, Edge %d", ok, r.Edge)
	}
	r = with(func(r *api.Recv) { r.Edge = 13 })
	if r, _, _, ok := read(t, r, 0); ok || r.Edge != 13 {
		t.Errorf("%t, Edge %d", ok, r.Edge)
	}
	// One that is Done tells it too.
	done := ended()
	done.Edge = 10
	if _, _, answer, ok := read(t, done, 9); !ok || answer.Ack != 111 || answer.Win != 10 {
		t.Errorf("%t, %v", ok, answer)
	}
}

// P8.6

// dice is a row of numbers that is the same each time.
type dice uint64

// roll answers a number from 0 up to n.
func (d *dice) roll(n int) int {
	*d = *d*6364136223846793005 + 1442695040888963407
	return int(*d>>33) % n
}

// begin answers a fresh receiver of some kind whose stream begins at some offset.
func begin(d *dice, first int) api.Recv {
	room := []int{1, 2, 5, 8, 16}[d.roll(5)]
	irs := []uint32{0, 100, 1<<32 - 3, 1<<31 - 2}[d.roll(4)]
	r, _ := recv.New(room, d.roll(3), irs, 7, d.roll(2) == 0, d.roll(2) == 0)
	r.Next, r.Edge = first, first+r.Edge
	return r
}

// follow asks for what holds from one receiver to the one behind it.
func follow(t *testing.T, before, r api.Recv) {
	t.Helper()
	if recv.Check(r) != api.OK {
		t.Fatalf("%v became %v, which may not be", before, r)
	}
	if r.Next < before.Next || r.Edge < before.Edge || before.Done && !r.Done || before.Fin != -1 && r.Fin != before.Fin {
		t.Fatalf("%v became %v", before, r)
	}
}

// Whatever parts of a text come, in whatever order, twice or not: what is handed over is a beginning of it, and all of
// it once all has come.
func TestWhateverComes(t *testing.T) {
	d := dice(11)
	for run := range 3000 {
		const long = 24
		first := []int{0, 1, 1000, 1<<32 - 9, far - long}[run%5]
		r := begin(&d, first)
		whole := text(first, first+long)
		var got []byte
		clock := uint32(1<<32 - 40)
		come := func(from, to int) {
			s := api.Segment{Seq: r.Irs + uint32(first+from), Data: whole[from:to], Stamped: r.Stamps, Val: clock}
			if to == long {
				s.Flags = api.Fin
			}
			next, _ := input(t, r, s)
			follow(t, r, next)
			again, _ := input(t, next, s)
			if !same(again, next) {
				t.Fatalf("%v, twice %v: %v", r, s, again)
			}
			r = next
		}
		takeOut := func(n int) {
			next, data, _, _ := read(t, r, n)
			follow(t, r, next)
			r, got = next, append(got, data...)
			if !bytes.Equal(got, whole[:len(got)]) {
				t.Fatalf("%q was handed over, of %q", got, whole)
			}
			if first+len(got)+len(r.Unread) != r.Next {
				t.Fatalf("%d were handed over, %v", len(got), r)
			}
		}
		for range 40 {
			if d.roll(3) == 0 {
				takeOut(d.roll(6) - 1)
				continue
			}
			from := d.roll(long + 1)
			clock += uint32(d.roll(3))
			come(from, min(long, from+d.roll(7)))
		}
		for range long {
			for from := range long {
				come(from, from+1)
			}
			takeOut(long)
		}
		if !bytes.Equal(got, whole) || !r.Done {
			t.Fatalf("%q was handed over, %v", got, r)
		}
	}
}

// Whatever else comes, forged bytes, ends and stamps: all that was taken is handed over, and Next and Edge never fall.
func TestForged(t *testing.T) {
	d := dice(5)
	for run := range 3000 {
		first := []int{0, 1000, 1<<31 - 4, far - 12, far}[run%5]
		r := begin(&d, first)
		var taken, got []byte
		for range 60 {
			if d.roll(4) == 0 {
				next, data, _, _ := read(t, r, d.roll(8)-1)
				follow(t, r, next)
				r, got = next, append(got, data...)
				continue
			}
			s := api.Segment{Seq: r.Irs + uint32(r.Next+d.roll(20)-7), Flags: d.roll(256), Stamped: d.roll(9) > 0, Val: uint32(d.roll(4) << 30)}
			if d.roll(12) == 0 {
				s.Seq += 1 << 31
			}
			if d.roll(4) > 0 {
				s.Flags &^= api.Fin
			}
			for range d.roll(8) {
				s.Data = append(s.Data, byte(d.roll(256)))
			}
			next, _ := input(t, r, s)
			follow(t, r, next)
			if again, _ := input(t, next, s); !same(again, next) {
				t.Fatalf("%v, twice %v: %v, then %v", r, s, next, again)
			}
			taken = append(taken, next.Unread[len(r.Unread):]...)
			r = next
		}
		r, rest, _, _ := read(t, r, math.MaxInt)
		if !bytes.Equal(append(got, rest...), taken) || r.Next != first+len(taken) {
			t.Fatalf("%q was taken, %q handed over", taken, got)
		}
	}
}

// Whatever a receiver that may be is given, it may be behind it.
func TestStaysOneThatMayBe(t *testing.T) {
	for _, r := range rightRecvs() {
		x, _ := recv.Tell(r)
		follow(t, r, x)
		y, _ := recv.Tell(x)
		if !same(x, y) {
			t.Errorf("Tell twice: %v, %v", x, y)
		}
	}
}

// Rules that hold everywhere

// roomy answers a list with more room behind its end, and something in it.
func roomy[T any](l []T, behind T) []T {
	out := append(slices.Clone(l), behind, behind, behind, behind, behind, behind)
	return out[:len(l)]
}

// deep answers a receiver of new memory, with room behind all its ends.
func deep(r api.Recv) api.Recv {
	r.Unread = roomy(r.Unread, '!')
	r.First = roomy(r.First, api.Span{From: -1, To: -1})
	r.Late = roomy(r.Late, api.Piece{From: -1})
	for i, p := range r.Late {
		r.Late[i].Data = roomy(p.Data, '!')
	}
	return r
}

// spoil writes over a list, and over the room behind its end.
func spoil[T any](l []T, with T) {
	l = l[:cap(l)]
	for i := range l {
		l[i] = with
	}
}

// spoilAll writes over all that a receiver, a segment and bytes hold.
func spoilAll(r api.Recv, s api.Segment, data []byte) {
	for _, p := range r.Late {
		spoil(p.Data, '#')
	}
	spoil(r.Late, api.Piece{From: -7})
	spoil(r.First, api.Span{From: -7})
	spoil(r.Unread, '#')
	spoil(s.Sacks, api.Block{From: 9})
	spoil(s.Data, '#')
	spoil(data, '#')
}

// untouched tells whether a receiver that deep made is as it was, behind its ends too.
func untouched(r, kept api.Recv) bool {
	behind := same(r, kept)
	for _, b := range r.Unread[len(r.Unread) : len(r.Unread)+6] {
		behind = behind && b == '!'
	}
	for _, x := range r.First[len(r.First) : len(r.First)+6] {
		behind = behind && x.From == -1
	}
	for _, p := range r.Late[len(r.Late) : len(r.Late)+6] {
		behind = behind && p.From == -1
	}
	for _, p := range r.Late {
		for _, b := range p.Data[len(p.Data) : len(p.Data)+6] {
			behind = behind && b == '!'
		}
	}
	return behind
}

// someSegments are segments about a receiver's Next.
func someSegments(r api.Recv) []api.Segment {
	var l []api.Segment
	for from := r.Next - 3; from < r.Next+8; from++ {
		for n := range 7 {
			s := at(r, from, from+n, n%2)
			s.Stamped, s.Val = n != 5, r.Recent+uint32(n)
			l = append(l, s)
		}
	}
	return l
}

// What is handed in stays as it was, what stands behind its ends too, and what is answered is memory of its own (R3).
func TestWhatIsHandedInStays(t *testing.T) {
	for _, kept := range append(rightRecvs(), many(4, true)) {
		for _, s := range someSegments(kept) {
			r, data := deep(kept), roomy(s.Data, '!')
			given := s
			given.Data, given.Sacks = data, roomy(blocks(1, 2), api.Block{})
			next, answer, _, _ := recv.Input(r, given)
			spoilAll(next, answer, nil)
			if !untouched(r, kept) || string(data[:len(data)+6]) != string(s.Data)+"!!!!!!" || given.Sacks[0] != blocks(1, 2)[0] {
				t.Fatalf("Input(%v, %v) changed what was handed in: %v, %v", kept, s, r, given)
			}
		}
		for n := -1; n < 12; n++ {
			r := deep(kept)
			next, data, answer, _, _ := recv.Read(r, n)
			spoilAll(next, answer, data)
			if !untouched(r, kept) {
				t.Fatalf("Read(%v, %d) changed what was handed in: %v", kept, n, r)
			}
		}
		r := deep(kept)
		next, answer := recv.Tell(r)
		spoilAll(next, answer, nil)
		if !untouched(r, kept) || recv.Window(r) < 0 || recv.Check(r) != api.OK || !untouched(r, kept) {
			t.Fatalf("Tell(%v) changed what was handed in: %v", kept, r)
		}
	}
}

// What was answered stays when what was handed in is written over; nor do two lists of an answer share memory.
func TestAnswersStay(t *testing.T) {
	for _, kept := range append(rightRecvs(), many(4, true)) {
		for _, s := range someSegments(kept) {
			want, wantAnswer, _ := wantInput(kept, s)
			r := deep(kept)
			s.Data = slices.Clone(s.Data)
			next, answer, _, _ := recv.Input(r, s)
			spoilAll(r, s, nil)
			if !same(next, want) || !alike(answer, wantAnswer) {
				t.Fatalf("%v, %v changed: %v, %v", kept, s, next, answer)
			}
			apart(t, next)
		}
		for n := -1; n < 12; n++ {
			want, wantData, _, _ := wantRead(kept, n)
			r := deep(kept)
			next, data, _, _, _ := recv.Read(r, n)
			spoilAll(r, api.Segment{}, nil)
			if !same(next, want) || !bytes.Equal(data, wantData) {
				t.Fatalf("%v, Read of %d changed: %v, %q", kept, n, next, data)
			}
			spoil(data, '#')
			if !same(next, want) {
				t.Fatalf("%v, Read of %d: bytes and Unread share memory", kept, n)
			}
			apart(t, next)
		}
		want, _ := wantTell(kept)
		r := deep(kept)
		next, _ := recv.Tell(r)
		spoilAll(r, api.Segment{}, nil)
		if !same(next, want) {
			t.Fatalf("%v, Tell changed: %v", kept, next)
		}
		apart(t, next)
	}
}

// apart asks that no two lists of bytes of a receiver share memory, by writing over one after the other.
func apart(t *testing.T, r api.Recv) {
	t.Helper()
	lists := [][]byte{r.Unread}
	for _, p := range r.Late {
		lists = append(lists, p.Data)
	}
	for i, l := range lists {
		spoil(l, byte(i))
	}
	for i, l := range lists {
		for _, b := range l {
			if b != byte(i) {
				t.Fatalf("two lists of %v share memory", r)
			}
		}
	}
}

// Two receivers that came of one know nothing of one another (R4).
func TestRecvsFromOne(t *testing.T) {
	r, _, _, _ := recv.Input(bare(0, 50), api.Segment{Data: []byte("abc")})
	r, _, _, _ = recv.Input(r, api.Segment{Seq: 10, Data: []byte("xyz")})
	one, _, _, _ := recv.Input(r, api.Segment{Seq: 3, Data: []byte("1")})
	two, _, _, _ := recv.Input(r, api.Segment{Seq: 3, Data: []byte("2")})
	one, _, _, _ = recv.Input(one, api.Segment{Seq: 13, Data: []byte("11")})
	two, _, _, _ = recv.Input(two, api.Segment{Seq: 13, Data: []byte("22")})
	if string(one.Unread) != "abc1" || string(two.Unread) != "abc2" || string(r.Unread) != "abc" {
		t.Errorf("%q, %q from %q", one.Unread, two.Unread, r.Unread)
	}
	if string(one.Late[0].Data) != "xyz11" || string(two.Late[0].Data) != "xyz22" || string(r.Late[0].Data) != "xyz" {
		t.Errorf("%v, %v from %v", one.Late, two.Late, r.Late)
	}
}

// nil and empty lists are the same, and the same call answers the same (R3, R8).
func TestNilAndEmptyAndAgain(t *testing.T) {
	for _, r := range append(rightRecvs(), wrongRecvs()...) {
		s := r
		if len(r.Unread) == 0 {
			r.Unread, s.Unread = nil, []byte{}
		}
		if len(r.Late) == 0 {
			r.Late, s.Late = nil, []api.Piece{}
		}
		if len(r.First) == 0 {
			r.First, s.First = nil, []api.Span{}
		}
		if recv.Check(r) != recv.Check(s) || recv.Window(r) != recv.Window(s) {
			t.Fatalf("Check or Window of %v and %v differ", r, s)
		}
		a, answer := recv.Tell(r)
		b, other := recv.Tell(s)
		if !same(a, b) || !alike(answer, other) {
			t.Fatalf("Tell of %v and %v differ", r, s)
		}
		for _, x := range []api.Segment{{Seq: r.Irs + uint32(r.Next)}, {Seq: r.Irs + uint32(r.Next), Stamped: true}} {
			y := x
			y.Data, y.Sacks = []byte{}, []api.Block{}
			a, answer, ok, e := recv.Input(r, x)
			b, other, good, f := recv.Input(s, y)
			if !same(a, b) || !alike(answer, other) || ok != good || e != f {
				t.Fatalf("Input of %v and %v differ", r, s)
			}
		}
		a, data, answer, ok, e := recv.Read(r, 2)
		b, more, other, good, f := recv.Read(s, 2)
		if !same(a, b) || !bytes.Equal(data, more) || !alike(answer, other) || ok != good || e != f {
			t.Fatalf("Read of %v and %v differ", r, s)
		}
	}
}
