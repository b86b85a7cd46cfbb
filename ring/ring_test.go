package ring_test

import (
	"bytes"
	"math"
	"testing"

	"tideway/api"
	"tideway/ring"
)

// of answers a ring that is not Closed.
func of(base, most int, data string) api.Ring {
	return api.Ring{Base: base, Cap: most, Data: []byte(data)}
}

// closed answers the same ring, Closed.
func closed(r api.Ring) api.Ring {
	r.Closed = true
	return r
}

// bothWays answers each ring twice: as it is, and Closed.
func bothWays(l []api.Ring) []api.Ring {
	var out []api.Ring
	for _, r := range l {
		out = append(out, r, closed(r))
	}
	return out
}

// rightRings are rings that may be, none of them Closed.
func rightRings() []api.Ring {
	return []api.Ring{
		{},
		of(0, 0, ""),
		of(0, 1, ""),
		of(0, 1, "a"),
		of(0, 8, "abc"),
		of(5, 3, "ab"),
		of(5, 3, "abc"),
		of(1000, 20, "the quick brown fox"),
		of(7, 6, "\x00\xff\x00\x80\x01"),
		of(0, api.MaxSize, ""),
		of(12, api.MaxSize, "abcdef"),
		of(api.MaxOffset, 0, ""),
		of(api.MaxOffset, 5, ""),
		of(api.MaxOffset, api.MaxSize, ""),
		of(api.MaxOffset-1, 5, ""),
		of(api.MaxOffset-1, 5, "a"),
		of(api.MaxOffset-4, 9, "ab"),
		of(api.MaxOffset-4, 3, "ab"),
		of(api.MaxOffset-4, 4, "abcd"),
		of(api.MaxOffset-4, api.MaxSize, "abcd"),
		of(api.MaxOffset-api.MaxSize, api.MaxSize, "ab"),
	}
}

// wrongRings are rings that may not be, none of them Closed.
func wrongRings() []api.Ring {
	return []api.Ring{
		of(-1, 3, ""),
		of(-1, 3, "ab"),
		of(-2, 3, "ab"),
		of(math.MinInt, 3, "ab"),
		of(api.MaxOffset+1, 3, ""),
		of(api.MaxOffset+1, 0, ""),
		of(math.MaxInt, 3, ""),
		of(math.MaxInt, 3, "ab"),
		of(0, -1, ""),
		of(0, -1, "a"),
		of(5, math.MinInt, ""),
		of(0, api.MaxSize+1, ""),
		of(0, api.MaxSize+1, "ab"),
		of(5, math.MaxInt, "ab"),
		of(0, 0, "a"),
		of(0, 1, "ab"),
		of(5, 3, "abcd"),
		of(5, 3, "abcdefgh"),
		of(api.MaxOffset, 3, "a"),
		of(api.MaxOffset-1, 3, "ab"),
		of(api.MaxOffset-2, 3, "abc"),
		of(api.MaxOffset-1, 1, "ab"),
		of(-1, -1, "ab"),
		of(math.MaxInt, math.MaxInt, "ab"),
		of(math.MinInt, math.MinInt, ""),
	}
}

// anyRings are all of these, Closed and not.
func anyRings() []api.Ring {
	return bothWays(append(rightRings(), wrongRings()...))
}

// writes are what may be written.
func writes() [][]byte {
	return [][]byte{nil, {}, []byte("x"), []byte("xy"), []byte("xyz"), {0}, {255, 0, 7}, []byte("a longer text than most rings have room for")}
}

// about are offsets in a ring and about its ends, and some far from it.
func about(r api.Ring) []int {
	out := []int{math.MinInt, -api.MaxOffset, -1, 0, 1, api.MaxOffset - 1, api.MaxOffset, api.MaxOffset + 1, math.MaxInt}
	if r.Base < 0 || r.Base > api.MaxOffset {
		return append(out, r.Base)
	}
	for x := r.Base - 2; x <= r.Base+len(r.Data)+2; x++ {
		out = append(out, x)
	}
	return out
}

// mayBe tells by P7.1's words whether a ring may be.
func mayBe(r api.Ring) bool {
	if r.Base < 0 || r.Base > 1<<50 || r.Cap < 0 || r.Cap > 1<<30 {
		return false
	}
	return len(r.Data) <= r.Cap && r.Base+len(r.Data) <= 1<<50
}

// same tells whether two rings are alike, nil and empty bytes too.
func same(a, b api.Ring) bool {
	return a.Base == b.Base && a.Cap == b.Cap && a.Closed == b.Closed && string(a.Data) == string(b.Data)
}

// isZero tells whether a ring is the zero value.
func isZero(r api.Ring) bool { return same(r, api.Ring{}) }

// P7.1: Check

func TestCheck(t *testing.T) {
	for _, r := range bothWays(rightRings()) {
		if e := ring.Check(r); e != api.OK {
			t.Errorf("Check(%v) = %d", r, e)
		}
	}
	for _, r := range bothWays(wrongRings()) {
		if e := ring.Check(r); e != 2 {
			t.Errorf("Check(%v) = %d", r, e)
		}
	}
}

// Every limit with every other, at it and about it.
func TestCheckAtTheLimits(t *testing.T) {
	bases := []int{math.MinInt, -2, -1, 0, 1, 7, 1<<50 - 5, 1<<50 - 4, 1<<50 - 3, 1<<50 - 2, 1<<50 - 1, 1 << 50, 1<<50 + 1, 1<<50 + 2, math.MaxInt}
	caps := []int{math.MinInt, -2, -1, 0, 1, 2, 3, 4, 5, 1<<30 - 1, 1 << 30, 1<<30 + 1, 1 << 50, math.MaxInt}
	for _, base := range bases {
		for _, most := range caps {
			for n := range 6 {
				for _, r := range bothWays([]api.Ring{{Base: base, Cap: most, Data: make([]byte, n)}}) {
					want := api.OK
					if !mayBe(r) {
						want = api.ErrArg
					}
					if e := ring.Check(r); e != want {
						t.Errorf("Check(%v) = %d, want %d", r, e, want)
					}
				}
			}
		}
	}
}

// The length of Data counts, not the room behind its end.
func TestCheckCountsTheLength(t *testing.T) {
	r := api.Ring{Base: api.MaxOffset - 3, Cap: 3, Data: make([]byte, 3, 100)}
	if e := ring.Check(r); e != api.OK {
		t.Errorf("Check = %d", e)
	}
	r.Data = r.Data[:2]
	if ring.End(r) != api.MaxOffset-1 || ring.Room(r) != 1 {
		t.Errorf("End = %d, Room = %d", ring.End(r), ring.Room(r))
	}
}

// P7.1: End and Room

func TestEndAndRoom(t *testing.T) {
	for _, c := range []struct {
		r         api.Ring
		end, room int
	}{
		{of(5, 3, "ab"), 7, 1},
		{of(5, 3, "abc"), 8, 0},
		{of(5, 3, ""), 5, 3},
		{of(0, 0, ""), 0, 0},
		{of(0, 9, "abcd"), 4, 5},
		{of(0, api.MaxSize, ""), 0, 1 << 30},
		{of(12, api.MaxSize, "abcdef"), 18, 1<<30 - 6},
		{of(api.MaxOffset, 0, ""), 1 << 50, 0},
		{of(api.MaxOffset, 5, ""), 1 << 50, 0},
		{of(api.MaxOffset, api.MaxSize, ""), 1 << 50, 0},
		{of(api.MaxOffset-1, 5, ""), 1<<50 - 1, 1},
		{of(api.MaxOffset-1, 5, "a"), 1 << 50, 0},
		{of(api.MaxOffset-4, 9, "ab"), 1<<50 - 2, 2},
		{of(api.MaxOffset-4, 4, "ab"), 1<<50 - 2, 2},
		{of(api.MaxOffset-4, 3, "ab"), 1<<50 - 2, 1},
		{of(api.MaxOffset-4, api.MaxSize, "abcd"), 1 << 50, 0},
		{of(api.MaxOffset-api.MaxSize, api.MaxSize, "ab"), 1<<50 - 1<<30 + 2, 1<<30 - 2},
		{of(api.MaxOffset-api.MaxSize+1, api.MaxSize, ""), 1<<50 - 1<<30 + 1, 1<<30 - 1},
	} {
		if end, room := ring.End(c.r), ring.Room(c.r); end != c.end || room != c.room {
			t.Errorf("End(%v) = %d, Room %d, want %d, %d", c.r, end, room, c.end, c.room)
		}
		if end, room := ring.End(closed(c.r)), ring.Room(closed(c.r)); end != c.end || room != 0 {
			t.Errorf("of the Closed %v End = %d, Room %d, want %d, 0", c.r, end, room, c.end)
		}
	}
}

func TestEndAndRoomOfWrongRings(t *testing.T) {
	for _, r := range bothWays(wrongRings()) {
		if end, room := ring.End(r), ring.Room(r); end != 0 || room != 0 {
			t.Errorf("End(%v) = %d, Room %d", r, end, room)
		}
	}
}

// Room is as much as Data may grow by, and no more.
func TestRoomIsTheMost(t *testing.T) {
	for _, r := range rightRings() {
		room := ring.Room(r)
		if room > 1<<20 {
			continue
		}
		r.Data = append(bytes.Clone(r.Data), make([]byte, room)...)
		if e := ring.Check(r); e != api.OK {
			t.Errorf("%v with all its room: Check = %d", r, e)
		}
		r.Data = append(r.Data, 0)
		if e := ring.Check(r); e != api.ErrArg {
			t.Errorf("%v with one more: Check = %d", r, e)
		}
	}
}

// P7.1: ErrArg first of a ring that may not be, Closed or not, whatever else is handed in

func TestWrongRings(t *testing.T) {
	for _, r := range bothWays(wrongRings()) {
		for _, data := range writes() {
			if got, n, e := ring.Write(r, data); e != api.ErrArg || n != 0 || !isZero(got) {
				t.Errorf("Write(%v, %q) = %v, %d, %d", r, data, got, n, e)
			}
		}
		if got, e := ring.Close(r); e != api.ErrArg || !isZero(got) {
			t.Errorf("Close(%v) = %v, %d", r, got, e)
		}
		for _, from := range about(r) {
			if got, e := ring.Release(r, from); e != api.ErrArg || !isZero(got) {
				t.Errorf("Release(%v, %d) = %v, %d", r, from, got, e)
			}
			for _, to := range about(r) {
				if got, e := ring.Slice(r, from, to); e != api.ErrArg || len(got) != 0 {
					t.Errorf("Slice(%v, %d, %d) = %q, %d", r, from, to, got, e)
				}
			}
		}
	}
}

// P7.2: Write

func TestWrite(t *testing.T) {
	for _, c := range []struct {
		r     api.Ring
		data  string
		want  string
		taken int
	}{
		{of(5, 3, "ab"), "", "ab", 0},
		{of(5, 3, "ab"), "c", "abc", 1},
		{of(5, 3, "ab"), "cd", "abc", 1},
		{of(5, 3, "abc"), "", "abc", 0},
		{of(5, 3, "abc"), "d", "abc", 0},
		{of(5, 3, ""), "abc", "abc", 3},
		{of(5, 3, ""), "abcd", "abc", 3},
		{of(5, 3, ""), "ab", "ab", 2},
		{of(0, 0, ""), "a", "", 0},
		{of(0, 0, ""), "", "", 0},
		{of(0, api.MaxSize, "ab"), "cdefg", "abcdefg", 5},
		{of(0, 10, "\x00\xff"), "\x00\x01", "\x00\xff\x00\x01", 2},
		{of(api.MaxOffset, 5, ""), "a", "", 0},
		{of(api.MaxOffset-1, 5, ""), "ab", "a", 1},
		{of(api.MaxOffset-4, 9, "ab"), "c", "abc", 1},
		{of(api.MaxOffset-4, 9, "ab"), "cd", "abcd", 2},
		{of(api.MaxOffset-4, 9, "ab"), "cde", "abcd", 2},
		{of(api.MaxOffset-4, 3, "ab"), "cde", "abc", 1},
	} {
		got, n, e := ring.Write(c.r, []byte(c.data))
		if e != api.OK || n != c.taken || !same(got, of(c.r.Base, c.r.Cap, c.want)) {
			t.Errorf("Write(%v, %q) = %v, %d, %d", c.r, c.data, got, n, e)
		}
	}
}

func TestWriteOfAllThatMayBe(t *testing.T) {
	for _, r := range rightRings() {
		for _, data := range writes() {
			got, n, e := ring.Write(r, data)
			want := r
			want.Data = []byte(string(r.Data) + string(data[:min(len(data), ring.Room(r))]))
			if e != api.OK || n != len(want.Data)-len(r.Data) || !same(got, want) {
				t.Errorf("Write(%v, %q) = %v, %d, %d", r, data, got, n, e)
			}
		}
	}
}

// A great ring is filled to its last byte.
func TestWriteOfMuch(t *testing.T) {
	text := make([]byte, 1<<20+3)
	for i := range text {
		text[i] = byte(i*7 + i>>8)
	}
	r := api.Ring{Base: 99, Cap: 1 << 20, Data: bytes.Clone(text[:5])}
	got, n, e := ring.Write(r, text[5:])
	if e != api.OK || n != 1<<20-5 || !bytes.Equal(got.Data, text[:1<<20]) || ring.Room(got) != 0 {
		t.Errorf("Write = %d bytes, %d, %d", len(got.Data), n, e)
	}
}

func TestWriteIntoClosed(t *testing.T) {
	for _, r := range rightRings() {
		for _, data := range writes() {
			if got, n, e := ring.Write(closed(r), data); e != 71 || n != 0 || !isZero(got) {
				t.Errorf("Write(%v, %q) = %v, %d, %d", closed(r), data, got, n, e)
			}
		}
	}
}

// P7.2: Close

func TestClose(t *testing.T) {
	for _, r := range rightRings() {
		got, e := ring.Close(r)
		if e != api.OK || !same(got, closed(r)) {
			t.Errorf("Close(%v) = %v, %d", r, got, e)
		}
		if again, e := ring.Close(got); e != 71 || !isZero(again) {
			t.Errorf("Close of %v = %v, %d", got, again, e)
		}
	}
}

// P7.2: Release

func TestRelease(t *testing.T) {
	for _, r := range bothWays(rightRings()) {
		for _, to := range about(r) {
			got, e := ring.Release(r, to)
			if to < r.Base || to > r.Base+len(r.Data) {
				if e != 2 || !isZero(got) {
					t.Errorf("Release(%v, %d) = %v, %d", r, to, got, e)
				}
				continue
			}
			want := r
			want.Base, want.Data = to, []byte(string(r.Data)[to-r.Base:])
			if e != api.OK || !same(got, want) {
				t.Errorf("Release(%v, %d) = %v, %d", r, to, got, e)
			}
		}
	}
}

func TestReleaseByHand(t *testing.T) {
	r := closed(of(5, 4, "abc"))
	for to, want := range map[int]string{5: "abc", 6: "bc", 7: "c", 8: ""} {
		if got, e := ring.Release(r, to); e != api.OK || !same(got, closed(of(to, 4, want))) {
			t.Errorf("Release to %d = %v, %d", to, got, e)
		}
	}
	for _, to := range []int{math.MinInt, -1, 0, 4, 9, 10, math.MaxInt} {
		if got, e := ring.Release(r, to); e != api.ErrArg || !isZero(got) {
			t.Errorf("Release to %d = %v, %d", to, got, e)
		}
	}
}

// What is released leaves room, but none beyond MaxOffset.
func TestReleaseLeavesRoom(t *testing.T) {
	r, _ := ring.Release(of(5, 3, "abc"), 7)
	if n := ring.Room(r); n != 2 {
		t.Errorf("Room = %d", n)
	}
	r, _ = ring.Release(of(api.MaxOffset-3, 3, "abc"), api.MaxOffset)
	if n := ring.Room(r); n != 0 || ring.End(r) != api.MaxOffset {
		t.Errorf("Room = %d, End = %d", n, ring.End(r))
	}
}

// P7.2: Slice

func TestSlice(t *testing.T) {
	for _, r := range bothWays(rightRings()) {
		for _, from := range about(r) {
			for _, to := range about(r) {
				got, e := ring.Slice(r, from, to)
				if from < r.Base || from > to || to > r.Base+len(r.Data) {
					if e != 2 || len(got) != 0 {
						t.Fatalf("Slice(%v, %d, %d) = %q, %d", r, from, to, got, e)
					}
				} else if e != api.OK || string(got) != string(r.Data)[from-r.Base:to-r.Base] {
					t.Fatalf("Slice(%v, %d, %d) = %q, %d", r, from, to, got, e)
				}
			}
		}
	}
}

func TestSliceByHand(t *testing.T) {
	r := of(5, 9, "abcd")
	for _, c := range []struct {
		from, to int
		want     string
		e        api.Errno
	}{
		{5, 5, "", 0}, {7, 7, "", 0}, {9, 9, "", 0}, {5, 9, "abcd", 0}, {5, 6, "a", 0}, {6, 8, "bc", 0}, {8, 9, "d", 0},
		{4, 4, "", 2}, {4, 9, "", 2}, {4, 6, "", 2}, {7, 6, "", 2}, {9, 5, "", 2}, {5, 10, "", 2}, {9, 10, "", 2}, {10, 10, "", 2},
		{0, 4, "", 2}, {-1, -1, "", 2}, {math.MinInt, math.MaxInt, "", 2}, {math.MaxInt, math.MinInt, "", 2},
	} {
		if got, e := ring.Slice(r, c.from, c.to); e != c.e || string(got) != c.want {
			t.Errorf("Slice(%d, %d) = %q, %d", c.from, c.to, got, e)
		}
	}
}

// P7.3: what is written is what is sliced

// dice is a row of numbers that is the same each time.
type dice uint64

// roll answers a number from 0 up to n.
func (d *dice) roll(n int) int {
	*d = *d*6364136223846793005 + 1442695040888963407
	return int(*d>>33) % n
}

// text answers n bytes.
func (d *dice) text(n int) []byte {
	b := make([]byte, n)
	for i := range b {
		b[i] = byte(d.roll(256))
	}
	return b
}

// A ring is written to, released, and closed at last, and all that it holds is at each step what was written there.
func TestWhatIsWrittenIsSliced(t *testing.T) {
	d := dice(7)
	for run := range 400 {
		first := []int{0, 1, 5000, api.MaxOffset - 40, api.MaxOffset}[run%5]
		r := api.Ring{Base: first, Cap: []int{0, 1, 5, 16, 64, api.MaxSize}[d.roll(6)]}
		var stream []byte // all that was taken, from first on
		base := first
		for range 60 {
			switch d.roll(5) {
			case 0, 1:
				data := d.text(d.roll(20))
				room := min(r.Cap-(first+len(stream)-base), 1<<50-first-len(stream))
				next, n, e := ring.Write(r, data)
				if e != api.OK || n != min(room, len(data)) {
					t.Fatalf("Write(%v, %q) = %d, %d", r, data, n, e)
				}
				r, stream = next, append(stream, data[:n]...)
			case 2, 3:
				to := base + d.roll(first+len(stream)-base+1)
				next, e := ring.Release(r, to)
				if e != api.OK {
					t.Fatalf("Release(%v, %d) = %d", r, to, e)
				}
				r, base = next, to
			}
			sliceWhole(t, r, base, stream[base-first:])
		}
		last, e := ring.Close(r)
		if e != api.OK {
			t.Fatalf("Close(%v) = %d", r, e)
		}
		sliceWhole(t, last, base, stream[base-first:])
	}
}

// sliceWhole asks that a ring holds want from base on, wherever it is cut in two.
func sliceWhole(t *testing.T, r api.Ring, base int, want []byte) {
	t.Helper()
	end := base + len(want)
	if ring.Check(r) != api.OK || r.Base != base || ring.End(r) != end {
		t.Fatalf("%v: Check %d, End %d, want %d to %d", r, ring.Check(r), ring.End(r), base, end)
	}
	for mid := base; mid <= end; mid++ {
		a, e := ring.Slice(r, base, mid)
		b, f := ring.Slice(r, mid, end)
		if e != api.OK || f != api.OK || string(a)+string(b) != string(want) {
			t.Fatalf("%v cut at %d: %q, %d and %q, %d, want %q", r, mid, a, e, b, f, want)
		}
	}
}

// However what is written is cut, and wherever it is released in between, every piece of it is the same.
func TestHoweverItIsCut(t *testing.T) {
	const text = "abcdefgh"
	for _, base := range []int{0, 77, api.MaxOffset - len(text)} {
		for cut := range len(text) + 1 {
			for to := range cut + 1 {
				r, _, _ := ring.Write(of(base, len(text), ""), []byte(text[:cut]))
				r, _ = ring.Release(r, base+to)
				r, n, e := ring.Write(r, []byte(text[cut:]))
				if e != api.OK || n != len(text)-cut {
					t.Fatalf("Write of %q = %d, %d", text[cut:], n, e)
				}
				sliceWhole(t, r, base+to, []byte(text[to:]))
			}
		}
	}
}

// A release in steps is the same as one release.
func TestReleaseInSteps(t *testing.T) {
	for _, r := range bothWays(rightRings()) {
		end := ring.End(r)
		for mid := r.Base; mid <= end; mid++ {
			for to := mid; to <= end; to++ {
				half, _ := ring.Release(r, mid)
				a, e := ring.Release(half, to)
				b, f := ring.Release(r, to)
				if e != api.OK || f != api.OK || !same(a, b) {
					t.Fatalf("Release(%v) to %d, to %d = %v, %d, at once %v, %d", r, mid, to, a, e, b, f)
				}
			}
		}
	}
}

// The chapter's example

func TestExample(t *testing.T) {
	r := of(5, 3, "ab")
	if ring.End(r) != 7 || ring.Room(r) != 1 {
		t.Errorf("End = %d, Room = %d", ring.End(r), ring.Room(r))
	}
	r, n, e := ring.Write(r, []byte("cd"))
	if e != api.OK || n != 1 {
		t.Errorf("Write = %d, %d", n, e)
	}
	if r, e = ring.Release(r, 6); e != api.OK || string(r.Data) != "bc" {
		t.Errorf("Release = %v, %d", r, e)
	}
}

// Rules that hold everywhere

// spoil writes over all that an answer holds, and over the room behind its end.
func spoil(b []byte) {
	b = b[:cap(b)]
	for i := range b {
		b[i] = '#'
	}
}

// What is handed in stays as it was, what stands behind its end too, and what is answered is memory of its own (R3).
func TestWhatIsHandedInStays(t *testing.T) {
	for _, kept := range anyRings() {
		room := []byte(string(kept.Data) + "behind its end")
		r := kept
		r.Data = room[:len(kept.Data)]
		before := string(room)
		for _, text := range writes() {
			all := []byte(string(text) + "behind it")
			data := all[:len(text)]
			written, _, _ := ring.Write(r, data)
			ended, _ := ring.Close(r)
			spoil(written.Data)
			spoil(ended.Data)
			if string(room) != before || string(all) != string(text)+"behind it" || !same(r, kept) {
				t.Fatalf("Write of %q or Close: %q became %q, %q", text, before, room, all)
			}
		}
		for _, from := range about(r) {
			left, _ := ring.Release(r, from)
			spoil(left.Data)
			for _, to := range about(r) {
				piece, _ := ring.Slice(r, from, to)
				spoil(piece)
			}
			if string(room) != before || !same(r, kept) {
				t.Fatalf("Release to %d or Slice: %q became %q", from, before, room)
			}
		}
	}
}

// What was answered stays when what was handed in is written over.
func TestAnswersStay(t *testing.T) {
	for _, kept := range bothWays(rightRings()) {
		for _, text := range writes() {
			r, data := kept, bytes.Clone(text)
			r.Data = bytes.Clone(kept.Data)
			end := ring.End(r)
			written, _, _ := ring.Write(r, data)
			ended, _ := ring.Close(r)
			left, _ := ring.Release(r, r.Base)
			whole, _ := ring.Slice(r, r.Base, end)
			answers := [][]byte{written.Data, ended.Data, left.Data, whole}
			var before []string
			for _, b := range answers {
				before = append(before, string(b))
			}
			spoil(r.Data)
			spoil(data)
			for i, b := range answers {
				if string(b) != before[i] {
					t.Fatalf("answer %d of %v, %q changed to %q", i, kept, text, b)
				}
			}
		}
	}
}

// Two rings that were written from one know nothing of one another (R4).
func TestRingsFromOne(t *testing.T) {
	r, _, _ := ring.Write(of(0, 9, ""), []byte("abc"))
	one, _, _ := ring.Write(r, []byte("1"))
	two, _, _ := ring.Write(r, []byte("2"))
	early, _ := ring.Slice(one, 0, 2)
	_ = append(early, '!', '!')
	if string(one.Data) != "abc1" || string(two.Data) != "abc2" || string(r.Data) != "abc" {
		t.Errorf("%q, %q from %q", one.Data, two.Data, r.Data)
	}
}

// What is written may be a piece of the ring itself.
func TestWriteOfItsOwnBytes(t *testing.T) {
	room := []byte("abcdef")
	r := api.Ring{Base: 3, Cap: 6, Data: room[:4]}
	got, n, e := ring.Write(r, room[1:6])
	if e != api.OK || n != 2 || string(got.Data) != "abcdbc" || string(room) != "abcdef" {
		t.Errorf("Write = %v, %d, %d; %q", got, n, e, room)
	}
}

// nil and empty bytes are the same, and the same call answers the same (R3, R8).
func TestNilAndEmptyAndAgain(t *testing.T) {
	for _, r := range anyRings() {
		s := r
		if len(r.Data) == 0 {
			r.Data, s.Data = nil, []byte{}
		}
		if ring.Check(r) != ring.Check(s) || ring.End(r) != ring.End(s) || ring.Room(r) != ring.Room(s) {
			t.Fatalf("Check, End or Room of %v and %v differ", r, s)
		}
		for _, data := range writes() {
			a, n, e := ring.Write(r, data)
			b, m, f := ring.Write(s, data)
			if !same(a, b) || n != m || e != f {
				t.Fatalf("Write(%v, %q) = %v, %d, %d and %v, %d, %d", r, data, a, n, e, b, m, f)
			}
		}
		a, e := ring.Close(r)
		b, f := ring.Close(s)
		if !same(a, b) || e != f {
			t.Fatalf("Close(%v) = %v, %d and %v, %d", r, a, e, b, f)
		}
		for _, at := range about(r) {
			a, e := ring.Release(r, at)
			b, f := ring.Release(s, at)
			x, g := ring.Slice(r, at, at)
			y, h := ring.Slice(s, at, at)
			if !same(a, b) || e != f || !bytes.Equal(x, y) || g != h {
				t.Fatalf("Release or Slice of %v at %d differ", r, at)
			}
		}
	}
}
