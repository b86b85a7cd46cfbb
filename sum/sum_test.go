package sum_test

import (
	"bytes"
	"math"
	"slices"
	"testing"

	"tideway/sum"
)

// edgeWords are words about which a carry goes wrong.
func edgeWords() []uint16 {
	return []uint16{0, 1, 2, 0xff, 0x100, 0x7fff, 0x8000, 0x8001, 0xff00, 0xfffd, 0xfffe, 0xffff}
}

// texts answers texts of every length up to most, each of several fillings.
func texts(most int) [][]byte {
	var out [][]byte
	for n := range most + 1 {
		mixed := make([]byte, n)
		for i := range mixed {
			mixed[i] = byte(i*i*37 + i*101 + n*11 + 5)
		}
		out = append(out, mixed, make([]byte, n), bytes.Repeat([]byte{0xff}, n), bytes.Repeat([]byte{0x80}, n))
	}
	return out
}

// wantSum follows P2.1's words in numbers that do not wrap, over one whole text.
func wantSum(parts ...[]byte) uint16 {
	text := bytes.Join(parts, nil)
	if len(text)%2 == 1 {
		text = append(text, 0)
	}
	total := 0
	for i := 0; i < len(text); i += 2 {
		total += int(text[i])*256 + int(text[i+1])
		if total >= 1<<16 {
			total = total - 1<<16 + 1
		}
	}
	return uint16(65535 - total)
}

// withSum answers text with its Sum at place, where two bytes were 0.
func withSum(text []byte, place int) []byte {
	out := slices.Clone(text)
	out[place], out[place+1] = 0, 0
	s := sum.Sum(out)
	out[place], out[place+1] = byte(s>>8), byte(s)
	return out
}

// P2.1

func TestJoin(t *testing.T) {
	for _, c := range []struct{ a, b, want uint16 }{
		{0, 0, 0},
		{2, 3, 5},
		{0xffff, 0, 0xffff},
		{0, 0xffff, 0xffff},
		{0xfffe, 1, 0xffff},
		{0xffff, 1, 1},
		{1, 0xffff, 1},
		{0xffff, 2, 2},
		{0x8000, 0x7fff, 0xffff},
		{0x8000, 0x8000, 1},
		{0xffff, 0xffff, 0xffff},
		{0xfffe, 0xffff, 0xfffe},
		{0xabcd, 0x9876, 0x4444},
	} {
		if got := sum.Join(c.a, c.b); got != c.want {
			t.Errorf("Join(%04x, %04x) = %04x, want %04x", c.a, c.b, got, c.want)
		}
	}
}

func TestJoinEverywhere(t *testing.T) {
	for a := range 1 << 16 {
		for _, b := range edgeWords() {
			want := a + int(b)
			if want >= 1<<16 {
				want = want - 1<<16 + 1
			}
			if got := sum.Join(uint16(a), b); int(got) != want {
				t.Fatalf("Join(%04x, %04x) = %04x, want %04x", a, b, got, want)
			}
		}
	}
}

func TestSum(t *testing.T) {
	for _, c := range []struct {
		parts [][]byte
		want  uint16
	}{
		{nil, 65535},
		{[][]byte{}, 65535},
		{[][]byte{nil}, 65535},
		{[][]byte{{}}, 65535},
		{[][]byte{nil, {}, nil}, 65535},
		{[][]byte{{0}}, 65535},
		{[][]byte{{0, 0}}, 65535},
		{[][]byte{{0, 1}}, 65534},
		{[][]byte{{1, 0}}, 0xfeff},
		{[][]byte{{0xff, 0xff}}, 0},
		// a last byte alone is the higher one
		{[][]byte{{1}}, 0xfeff},
		{[][]byte{{0, 0, 1}}, 0xfeff},
		{[][]byte{{0xff}}, 0x00ff},
		{[][]byte{{}, {1}, nil}, 0xfeff},
		// the words from part to part
		{[][]byte{{0, 1, 0xf2, 3, 0xf4, 0xf5, 0xf6, 0xf7}}, 0x220d},
		{[][]byte{{0, 1, 0xf2}, {3, 0xf4, 0xf5, 0xf6, 0xf7}}, 0x220d},
		{[][]byte{{0}, {1}, {0xf2}, {3}, {0xf4}, {0xf5}, {0xf6}, {0xf7}}, 0x220d},
		{[][]byte{{0}, nil, {1, 0xf2, 3}, {}, {}, {0xf4, 0xf5, 0xf6}, {0xf7}}, 0x220d},
		{[][]byte{{1}, {2}}, 0xfefd},
		{[][]byte{{1}, {2}, {3}}, 0xfbfd},
		// sums of 17 bits
		{[][]byte{{0xff, 0xff, 0, 1}}, 0xfffe},
		{[][]byte{{0x80, 0, 0x80, 0}}, 0xfffe},
		{[][]byte{{0xff, 0xff, 0xff, 0xff}}, 0},
		{[][]byte{{0xff, 0xff}, {0xff, 0xfe}}, 1},
		{[][]byte{{0xff, 0xff, 0xff}}, 0x00ff},
	} {
		if got := sum.Sum(c.parts...); got != c.want {
			t.Errorf("Sum(%x) = %04x, want %04x", c.parts, got, c.want)
		}
		if got, want := sum.Valid(c.parts...), c.want == 0; got != want {
			t.Errorf("Valid(%x) = %t, want %t", c.parts, got, want)
		}
	}
}

func TestSumOfTexts(t *testing.T) {
	for _, text := range texts(70) {
		want := wantSum(text)
		if got := sum.Sum(text); got != want {
			t.Errorf("Sum(%x) = %04x, want %04x", text, got, want)
		}
		if got := sum.Valid(text); got != (want == 0) {
			t.Errorf("Valid(%x) = %t, but its Sum is %04x", text, got, want)
		}
	}
}

func TestSumIsTheSameHoweverCut(t *testing.T) {
	for _, text := range texts(13) {
		want := wantSum(text)
		for i := range len(text) + 1 {
			for j := i; j <= len(text); j++ {
				for _, parts := range [][][]byte{
					{text[:i], text[i:j], text[j:]},
					{nil, text[:i], {}, nil, text[i:j], {}, text[j:], nil},
				} {
					if got := sum.Sum(parts...); got != want {
						t.Errorf("Sum(%x) = %04x, want %04x", parts, got, want)
					}
					if got := sum.Valid(parts...); got != (want == 0) {
						t.Errorf("Valid(%x) = %t, but its Sum is %04x", parts, got, want)
					}
				}
			}
		}
	}
}

func TestSumOfMuch(t *testing.T) {
	ones := bytes.Repeat([]byte{0xff}, 1<<20)
	if got := sum.Sum(ones); got != 0 {
		t.Errorf("Sum of 2^20 bytes ff = %04x, want 0", got)
	}
	if got := sum.Sum(ones, []byte{0, 1}); got != 0xfffe {
		t.Errorf("Sum of 2^20 bytes ff, 00 01 = %04x, want fffe", got)
	}
	// 2^19 + 3 words 0001 go round 65535 eight times, and 11 are left
	if got := sum.Sum(bytes.Repeat([]byte{0, 1}, 1<<19+3)); got != 65535-11 {
		t.Errorf("Sum of 2^19 + 3 words 0001 = %d, want %d", got, 65535-11)
	}
}

func TestPartsEndAtTheirLength(t *testing.T) {
	room := []byte{1, 2, 3, 4, 5, 6}
	if got, want := sum.Sum(room[:1], room[3:4]), wantSum([]byte{1, 4}); got != want {
		t.Errorf("Sum of parts with room behind them = %04x, want %04x", got, want)
	}
	if !bytes.Equal(room, []byte{1, 2, 3, 4, 5, 6}) {
		t.Errorf("Sum changed its parts to %x", room)
	}
}

func TestPartsAreNotChanged(t *testing.T) {
	for _, text := range texts(9) {
		before := slices.Clone(text)
		parts := [][]byte{text[:len(text)/2], nil, text[len(text)/2:]}
		sum.Sum(parts...)
		sum.Valid(parts...)
		if !bytes.Equal(text, before) || len(parts[0]) != len(text)/2 || parts[1] != nil {
			t.Errorf("%x became %x", before, text)
		}
	}
}

// P2.2

func TestPseudo(t *testing.T) {
	for _, c := range []struct {
		src, dst uint32
		n        int
		want     []byte
	}{
		{0, 0, 0, []byte{0, 0, 0, 0, 0, 0, 0, 0, 0, 6, 0, 0}},
		{1, 2, 3, []byte{0, 0, 0, 1, 0, 0, 0, 2, 0, 6, 0, 3}},
		{0x01020304, 0x05060708, 0x090a, []byte{1, 2, 3, 4, 5, 6, 7, 8, 0, 6, 9, 10}},
		{0xfffefdfc, 0x80818283, 255, []byte{0xff, 0xfe, 0xfd, 0xfc, 0x80, 0x81, 0x82, 0x83, 0, 6, 0, 255}},
		{math.MaxUint32, math.MaxUint32, 256, []byte{255, 255, 255, 255, 255, 255, 255, 255, 0, 6, 1, 0}},
		// n modulo 65536
		{1, 2, 65535, []byte{0, 0, 0, 1, 0, 0, 0, 2, 0, 6, 255, 255}},
		{1, 2, 65536, []byte{0, 0, 0, 1, 0, 0, 0, 2, 0, 6, 0, 0}},
		{1, 2, 65537, []byte{0, 0, 0, 1, 0, 0, 0, 2, 0, 6, 0, 1}},
		{1, 2, 1<<40 + 0x1234, []byte{0, 0, 0, 1, 0, 0, 0, 2, 0, 6, 0x12, 0x34}},
		{1, 2, math.MaxInt, []byte{0, 0, 0, 1, 0, 0, 0, 2, 0, 6, 255, 255}},
		{1, 2, -1, []byte{0, 0, 0, 1, 0, 0, 0, 2, 0, 6, 255, 255}},
		{1, 2, -2, []byte{0, 0, 0, 1, 0, 0, 0, 2, 0, 6, 255, 254}},
		{1, 2, -65535, []byte{0, 0, 0, 1, 0, 0, 0, 2, 0, 6, 0, 1}},
		{1, 2, -65536, []byte{0, 0, 0, 1, 0, 0, 0, 2, 0, 6, 0, 0}},
		{1, 2, -65537, []byte{0, 0, 0, 1, 0, 0, 0, 2, 0, 6, 255, 255}},
		{1, 2, math.MinInt, []byte{0, 0, 0, 1, 0, 0, 0, 2, 0, 6, 0, 0}},
		{1, 2, math.MinInt + 0x1234, []byte{0, 0, 0, 1, 0, 0, 0, 2, 0, 6, 0x12, 0x34}},
	} {
		if got := sum.Pseudo(c.src, c.dst, c.n); !bytes.Equal(got, c.want) {
			t.Errorf("Pseudo(%08x, %08x, %d) = %x, want %x", c.src, c.dst, c.n, got, c.want)
		}
	}
}

func TestPseudoIsNewMemory(t *testing.T) {
	first := sum.Pseudo(1, 2, 3)
	for i := range first {
		first[i] = 0xee
	}
	want := []byte{0, 0, 0, 1, 0, 0, 0, 2, 0, 6, 0, 3}
	if second := sum.Pseudo(1, 2, 3); !bytes.Equal(second, want) {
		t.Errorf("Pseudo after its answer was written over = %x, want %x", second, want)
	}
}

// P2.3

func TestTextWithItsSumIsValid(t *testing.T) {
	for _, text := range texts(21) {
		for place := 0; place+2 <= len(text); place += 2 {
			if whole := withSum(text, place); !sum.Valid(whole) {
				t.Errorf("%x, with its Sum at %d, is not Valid", whole, place)
			}
		}
	}
}

func TestSegmentWithItsSumIsValid(t *testing.T) {
	head := []byte{0x04, 0xd2, 0x00, 0x50, 0, 0, 0, 9, 0, 0, 0, 0, 0x50, 0x18, 0xff, 0xff, 0, 0, 0, 0}
	data := []byte("odd")
	ahead := sum.Pseudo(0x0a000001, 0x0a000002, len(head)+len(data))
	s := sum.Sum(ahead, head, data)
	head[16], head[17] = byte(s>>8), byte(s)
	if !sum.Valid(ahead, head, data) {
		t.Errorf("%x, with its Sum, is not Valid", head)
	}
	if sum.Valid(sum.Pseudo(0x0a000001, 0x0a000003, len(head)+len(data)), head, data) {
		t.Error("a segment for another address is Valid")
	}
}

func TestOneBitTurnedIsTold(t *testing.T) {
	for _, text := range texts(21) {
		for place := 0; place+2 <= len(text); place += 2 {
			whole := withSum(text, place)
			for i := range whole {
				for bit := range 8 {
					turned := slices.Clone(whole)
					turned[i] ^= 1 << bit
					if sum.Valid(turned) || sum.Valid(turned[:i], turned[i:]) {
						t.Errorf("%x, with bit %d of byte %d turned, is Valid", whole, bit, i)
					}
				}
			}
		}
	}
}

func TestTwoWordsSwappedAreNotTold(t *testing.T) {
	for _, text := range texts(21) {
		if len(text) < 2 {
			continue
		}
		whole := withSum(text, 0)
		for i := 0; i+2 <= len(whole); i += 2 {
			for j := i + 2; j+2 <= len(whole); j += 2 {
				swapped := slices.Clone(whole)
				swapped[i], swapped[j] = whole[j], whole[i]
				swapped[i+1], swapped[j+1] = whole[j+1], whole[i+1]
				if !sum.Valid(swapped) {
					t.Errorf("%x, with its words at %d and %d swapped, is not Valid", whole, i, j)
				}
			}
		}
	}
}
