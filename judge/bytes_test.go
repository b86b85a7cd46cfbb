package judge_test

import (
	"bytes"
	"math"
	"slices"
	"strings"
	"testing"

	"tideway/api"
	"tideway/judge"
	"tideway/wire"
)

// sents answers a log of its parts.
func sents(l ...api.Sent) []api.Sent { return l }

// pieces answers a list of pieces.
func pieces(l ...api.Piece) []api.Piece { return l }

// P25.3: bytes that stand well together.

func TestBytes(t *testing.T) {
	for _, c := range []struct {
		name string
		log  []api.Sent
		want []api.Piece
	}{
		{"nothing", nil, nil},
		{"one", sents(carry(5, "tide")), pieces(piece(5, "tide"))},
		{"at 0", sents(carry(0, "t")), pieces(piece(0, "t"))},
		{"touch", sents(carry(0, "ti"), carry(2, "de")), pieces(piece(0, "tide"))},
		{"touch, turned", sents(carry(2, "de"), carry(0, "ti")), pieces(piece(0, "tide"))},
		{"apart", sents(carry(0, "ti"), carry(3, "de")), pieces(piece(0, "ti"), piece(3, "de"))},
		{"apart, turned", sents(carry(3, "de"), carry(0, "ti")), pieces(piece(0, "ti"), piece(3, "de"))},
		{"twice", sents(carry(3, "de"), carry(3, "de")), pieces(piece(3, "de"))},
		{"overlap", sents(carry(0, "tid"), carry(1, "ide")), pieces(piece(0, "tide"))},
		{"within", sents(carry(0, "tide"), carry(1, "id")), pieces(piece(0, "tide"))},
		{"around", sents(carry(1, "id"), carry(0, "tide")), pieces(piece(0, "tide"))},
		{"a gap filled", sents(carry(0, "t"), carry(3, "e"), carry(1, "id")), pieces(piece(0, "tide"))},
		{"a gap left", sents(carry(0, "t"), carry(3, "e"), carry(1, "i")), pieces(piece(0, "ti"), piece(3, "e"))},
		{"the same byte elsewhere", sents(carry(0, "a"), carry(1, "b"), carry(2, "a")), pieces(piece(0, "aba"))},
		{"bytes of 0", sents(carry(4, "\x00\x00"), carry(5, "\x00\x00")), pieces(piece(4, "\x00\x00\x00"))},
		{"no bytes", sents(carry(7, "")), nil},
		{"no bytes between", sents(carry(0, "ti"), carry(2, ""), carry(2, "de"), carry(9, "")), pieces(piece(0, "tide"))},
		{"no bytes in a gap", sents(carry(0, "ti"), carry(2, ""), carry(3, "e")), pieces(piece(0, "ti"), piece(3, "e"))},
		{"at the limit", sents(carry(most, "tide")), pieces(piece(most, "tide"))},
		{"at the limit, touching", sents(carry(most, "tide"), carry(most-2, "ab")), pieces(piece(most-2, "abtide"))},
		{"no bytes at the limit", sents(carry(most, "")), nil},
		{"far apart", sents(carry(most, "c"), carry(0, "a"), carry(1<<40, "b")), pieces(piece(0, "a"), piece(1<<40, "b"), piece(most, "c"))},
	} {
		t.Run(c.name, func(t *testing.T) { wantBytes(t, c.log, c.want, true) })
	}
}

// Nothing of one that was sent counts but its bytes and where they begin.
func TestBytesOfFieldsThatDoNotCount(t *testing.T) {
	x := carry(3, "tide")
	x.Why, x.To, x.Pipe, x.Cwnd, x.Edge = 0, -7, -1, -1, -1
	y := carry(3, "ti")
	y.To = math.MaxInt
	wantBytes(t, sents(x, y), pieces(piece(3, "tide")), true)
}

// A segment may have any flags, options and numbers.
func TestBytesOfAnySegment(t *testing.T) {
	s := api.Segment{
		SrcPort: 9, Seq: 77, Ack: 5, Flags: api.Fin | api.Syn | api.Urg, Win: 3, Mss: 500, Scale: 3, SackOk: true,
		Stamped: true, Val: 4, Ecr: 9, Sacks: []api.Block{{From: 1, To: 2}}, Data: []byte("tide"),
	}
	b, e := wire.Put(s, 1, 2)
	if e != api.OK {
		t.Fatal(e)
	}
	wantBytes(t, sents(api.Sent{Data: b, From: 60}), pieces(piece(60, "tide")), true)
}

// Bytes are many within a segment, many segments, and stand across all places of what is kept together.
func TestBytesOfEachLengthAndPlace(t *testing.T) {
	d := dice{5}
	all := string(d.bytes(400, 256))
	for from := range 140 {
		for _, n := range []int{1, 2, 63, 64, 65, 127, 128, 129, 200} {
			l := sents(carry(from, all[from:from+n]))
			wantBytes(t, l, pieces(piece(from, all[from:from+n])), true)
			l = append(l, carry(from+n+1, all[:n]))
			wantBytes(t, l, pieces(piece(from, all[from:from+n]), piece(from+n+1, all[:n])), true)
			l = append(l, carry(from+n, all[:1]))
			wantBytes(t, l, pieces(piece(from, all[from:from+n]+all[:1]+all[:n])), true)
		}
	}
	long := string(d.bytes(65000, 256))
	wantBytes(t, sents(carry(65000, long), carry(0, long)), pieces(piece(0, long+long)), true)
}

// P25.3: when there are none.

// no asks each order of a log that has no bytes, alone and among others.
func no(t *testing.T, x ...api.Sent) {
	t.Helper()
	wantBytes(t, x, nil, false)
	ahead, behind := carry(100, "some"), carry(104, "more")
	for i := range len(x) + 1 {
		l := slices.Insert(slices.Clone(x), i, ahead, behind)
		wantBytes(t, l, nil, false)
	}
	slices.Reverse(x)
	wantBytes(t, x, nil, false)
}

func TestBytesThatAreNoSegment(t *testing.T) {
	good := carry(5, "tide")
	for n := range len(good.Data) {
		x := good
		x.Data = good.Data[:n]
		no(t, x)
	}
	for i := range 8 * len(good.Data) {
		x := good
		x.Data = slices.Clone(good.Data)
		x.Data[i/8] ^= 1 << (i % 8)
		no(t, x)
	}
	for _, x := range [][]byte{nil, {}, make([]byte, 20), bytes.Repeat([]byte{255}, 40)} {
		no(t, api.Sent{Data: x})
	}
	long := good
	long.Data = append(slices.Clone(good.Data), 1)
	no(t, long)
}

func TestBytesBetweenOtherAddresses(t *testing.T) {
	for _, c := range []struct {
		src, dst uint32
		want     bool
	}{{1, 2, true}, {2, 1, true}, {0, 3, true}, {1, 1, false}, {2, 2, false}, {0, 2, false}, {1, 3, false}, {1 << 16, 2, true}} {
		// A checksum does not tell addresses from others with the same sum.
		x := api.Sent{Data: putFrom([]byte("tide"), c.src, c.dst), From: 4}
		if c.want {
			wantBytes(t, sents(x), pieces(piece(4, "tide")), true)
		} else {
			no(t, x)
		}
	}
}

func TestBytesWhereNoneMayBe(t *testing.T) {
	for _, data := range []string{"", "t", "tide"} {
		for _, from := range []int{-1, -4, math.MinInt, most + 1, most + 2, 1 << 51, math.MaxInt, math.MaxInt - 2} {
			x := carry(0, data)
			x.From = from
			no(t, x)
		}
	}
}

func TestBytesThatAreOthers(t *testing.T) {
	no(t, carry(5, "a"), carry(5, "b"))
	no(t, carry(5, "\x00"), carry(5, "\x01"))
	no(t, carry(5, "\x80"), carry(5, "\x00"))
	no(t, carry(0, "tide"), carry(1, "tide"))
	no(t, carry(most, "a"), carry(most, "b"))
	no(t, carry(0, "a"), carry(1, "b"), carry(0, "a"), carry(1, "a"))
}

// Two that overlap, with another byte at each place of the overlap.
func TestBytesThatAreOthersAtEachPlace(t *testing.T) {
	d := dice{6}
	all := d.bytes(300, 256)
	for _, c := range []struct{ from, n, from2, n2 int }{
		{50, 30, 60, 40}, {60, 40, 50, 30}, {50, 100, 70, 20}, {70, 20, 50, 100}, {64, 64, 64, 64}, {63, 2, 64, 70}, {0, 1, 0, 1},
	} {
		first := carry(c.from, string(all[c.from:c.from+c.n]))
		for x := c.from2; x < c.from2+c.n2; x++ {
			b := slices.Clone(all[c.from2 : c.from2+c.n2])
			b[x-c.from2] ^= byte(1 << d.below(8))
			second := carry(c.from2, string(b))
			_, ok := judge.Bytes(sents(first, second))
			if ok != (x < c.from || x >= c.from+c.n) {
				t.Errorf("%v: another byte at %d: %v", c, x, ok)
			}
			if !ok {
				no(t, first, second)
			}
		}
	}
}

// What is not told is not remembered: another call begins anew.
func TestBytesRemembersNothing(t *testing.T) {
	wantBytes(t, sents(carry(0, "ab"), carry(1, "a")), nil, false)
	wantBytes(t, sents(carry(1, "a")), pieces(piece(1, "a")), true)
	wantBytes(t, sents(carry(1, "b")), pieces(piece(1, "b")), true)
}

// R3: the answer is new memory, each piece its own.

func TestBytesAreNew(t *testing.T) {
	d := dice{7}
	a, b := string(d.bytes(70, 256)), string(d.bytes(3, 256))
	l := sents(carry(0, a), carry(500, b), carry(1000, a), carry(69, a[69:]), carry(1003, a[3:]))
	was := copied(l)
	want := pieces(piece(0, a), piece(500, b), piece(1000, a))
	for i := range want {
		got, _ := judge.Bytes(l)
		spoil(got[i].Data, 170)
		for k, x := range got {
			if k != i && !alike(x.Data, want[k].Data) {
				t.Errorf("piece %d shares memory with piece %d", k, i)
			}
		}
		spoil(got, api.Piece{})
		if !alike(l, was) {
			t.Fatal("a piece is the log's memory")
		}
		wantBytes(t, l, want, true)
	}
}

// Long logs take no square of their number: a text of many bytes, and many bytes that stand apart.
func TestBytesOfLongLogs(t *testing.T) {
	t.Parallel()
	d := dice{8}
	all := d.bytes(1<<23, 256)
	var l []api.Sent
	for from := 0; from < len(all); from += 60000 {
		l = append(l, carry(from, string(all[from:min(from+60000, len(all))])))
	}
	got, ok := judge.Bytes(l)
	if !ok || len(got) != 1 || got[0].From != 0 || !bytes.Equal(got[0].Data, all) {
		t.Error("a long text is not told back")
	}
	const n = 100000
	l = nil
	one := carry(0, "a")
	for _, x := range d.turn(n) {
		one.From = 1000 * x
		l = append(l, one)
	}
	got, ok = judge.Bytes(l)
	if !ok || len(got) != n {
		t.Fatalf("many bytes that stand apart: %d, %v", len(got), ok)
	}
	for i, x := range got {
		if !alike(pieces(x), pieces(piece(1000*i, "a"))) {
			t.Fatalf("piece %d: %v", i, x)
		}
	}
}

// A text of one byte again and again is told as it is.
func TestBytesOfAlikeBytes(t *testing.T) {
	text := strings.Repeat("\x00", 1000)
	var l []api.Sent
	for from := 0; from < 900; from += 37 {
		l = append(l, carry(from, text[from:from+100]))
	}
	wantBytes(t, l, pieces(piece(0, text[:988])), true)
}
