package wire_test

import (
	"bytes"
	"encoding/binary"
	"encoding/hex"
	"errors"
	"math"
	"reflect"
	"slices"
	"strings"
	"testing"

	"tideway/api"
	"tideway/wire"
)

const (
	src = 0xc0a80001
	dst = 0x0a000002
)

// plain is an ordinary segment without options.
func plain() api.Segment {
	return api.Segment{SrcPort: 0x1234, DstPort: 0x5678, Seq: 0x9abcdef0, Ack: 0x01020304, Flags: api.Ack | api.Psh, Win: 0xfedc, Urg: 0x7a7b, Mss: -1, Scale: -1, Data: []byte("abc")}
}

// full has every option, in just 40 bytes.
func full() api.Segment {
	return api.Segment{
		SrcPort: 65535, DstPort: 65535, Seq: math.MaxUint32, Ack: math.MaxUint32, Flags: 255, Win: 65535, Urg: 65535,
		Mss: 1460, Scale: 7, SackOk: true, Stamped: true, Val: 0x01020304, Ecr: 0x05060708,
		Sacks: []api.Block{{From: 1, To: 2}, {From: 0xfffffffe, To: 0x80000001}}, Data: []byte{0xff},
	}
}

// but answers an ordinary segment that is changed.
func but(change func(*api.Segment)) api.Segment {
	s := plain()
	change(&s)
	return s
}

// clone answers a segment that shares nothing with s.
func clone(s api.Segment) api.Segment {
	s.Sacks, s.Data = slices.Clone(s.Sacks), slices.Clone(s.Data)
	return s
}

// same tells whether two segments are the same; nil and empty lists are.
func same(a, b api.Segment) bool {
	if !slices.Equal(a.Sacks, b.Sacks) || !bytes.Equal(a.Data, b.Data) {
		return false
	}
	a.Sacks, a.Data, b.Sacks, b.Data = nil, nil, nil, nil
	return reflect.DeepEqual(a, b)
}

// isZero tells whether a segment is zero in all its fields.
func isZero(s api.Segment) bool { return same(s, api.Segment{}) }

// blocks answers n blocks that differ.
func blocks(n int) []api.Block {
	var out []api.Block
	for i := range n {
		out = append(out, api.Block{From: uint32(i)*0x01030507 + 0xf0, To: uint32(i)*0x0b0d1113 + 0xfffff0})
	}
	return out
}

// unhex reads bytes that are written in hexadecimal, with gaps.
func unhex(text string) []byte {
	b, err := hex.DecodeString(strings.ReplaceAll(text, " ", ""))
	if err != nil {
		panic(err)
	}
	return b
}

// checksum follows layer 2's words by division: words modulo 65535, where a sum that is not 0 is never told as 0.
func checksum(b []byte, src, dst uint32) uint16 {
	all := binary.BigEndian.AppendUint32(nil, src)
	all = binary.BigEndian.AppendUint32(all, dst)
	all = append(all, 0, 6, byte(len(b)>>8), byte(len(b)))
	all = append(all, b...)
	if len(all)%2 == 1 {
		all = append(all, 0)
	}
	total := 0
	for i := 0; i < len(all); i += 2 {
		total += int(binary.BigEndian.Uint16(all[i:]))
	}
	return uint16(65535 - (total-1)%65535 - 1)
}

// seal puts the right checksum into bytes of a segment.
func seal(b []byte) []byte {
	b[16], b[17] = 0, 0
	binary.BigEndian.PutUint16(b[16:], checksum(b, src, dst))
	return b
}

// raw answers a segment's bytes with these options, padded by zeros to words, and with a right checksum.
func raw(options []byte, data []byte) []byte {
	b := unhex("1234 5678 9abcdef0 01020304 50 18 fedc 0000 7a7b")
	b = append(b, options...)
	for len(b)%4 != 0 {
		b = append(b, 0)
	}
	b[12] = byte(len(b) / 4 * 16)
	return seal(append(b, data...))
}

// mixer is a row of numbers that is the same each time.
type mixer uint64

func (m *mixer) next(n int) int {
	*m = *m*6364136223846793005 + 1442695040888963407
	return int(uint64(*m)>>33) % n
}

func (m *mixer) pick(of ...int) int { return of[m.next(len(of))] }

func (m *mixer) bytes(n int) []byte {
	b := make([]byte, n)
	for i := range b {
		b[i] = byte(m.next(256))
	}
	return b
}

func (m *mixer) long() uint32 {
	return uint32(m.pick(0, 1, 0xff, 0x100, 0x7fffffff, 0x80000000, 0xffffffff, m.next(1<<31)))
}

// segment answers a segment that may be, unless its options are too long.
func (m *mixer) segment() api.Segment {
	word := func() int { return m.pick(0, 1, 255, 256, 65535, m.next(65536)) }
	s := api.Segment{
		SrcPort: word(), DstPort: word(), Seq: m.long(), Ack: m.long(), Flags: m.next(256), Win: word(), Urg: word(),
		Mss: m.pick(-1, -1, 0, 65535, word()), Scale: m.pick(-1, -1, 0, 14, m.next(15)), SackOk: m.next(2) == 0,
		Stamped: m.next(2) == 0, Sacks: blocks(m.next(5)), Data: m.bytes(m.pick(0, 0, 1, 2, 3, 100, 1461)),
	}
	if s.Stamped {
		s.Val, s.Ecr = m.long(), m.long()
	}
	return s
}

// P3.1

func TestCheck(t *testing.T) {
	for _, c := range []struct {
		name string
		s    api.Segment
		want api.Errno
	}{
		{"plain", plain(), api.OK},
		{"full", full(), api.OK},
		{"the zero value: Mss and Scale of 0", api.Segment{}, api.OK},
		{"SrcPort 0", but(func(s *api.Segment) { s.SrcPort = 0 }), api.OK},
		{"SrcPort 65535", but(func(s *api.Segment) { s.SrcPort = 65535 }), api.OK},
		{"SrcPort 65536", but(func(s *api.Segment) { s.SrcPort = 65536 }), api.ErrArg},
		{"SrcPort -1", but(func(s *api.Segment) { s.SrcPort = -1 }), api.ErrArg},
		{"SrcPort greatest", but(func(s *api.Segment) { s.SrcPort = math.MaxInt }), api.ErrArg},
		{"SrcPort least", but(func(s *api.Segment) { s.SrcPort = math.MinInt }), api.ErrArg},
		{"DstPort 0", but(func(s *api.Segment) { s.DstPort = 0 }), api.OK},
		{"DstPort 65535", but(func(s *api.Segment) { s.DstPort = 65535 }), api.OK},
		{"DstPort 65536", but(func(s *api.Segment) { s.DstPort = 65536 }), api.ErrArg},
		{"DstPort -1", but(func(s *api.Segment) { s.DstPort = -1 }), api.ErrArg},
		{"Win 0", but(func(s *api.Segment) { s.Win = 0 }), api.OK},
		{"Win 65535", but(func(s *api.Segment) { s.Win = 65535 }), api.OK},
		{"Win 65536", but(func(s *api.Segment) { s.Win = 65536 }), api.ErrArg},
		{"Win -1", but(func(s *api.Segment) { s.Win = -1 }), api.ErrArg},
		{"Urg 0", but(func(s *api.Segment) { s.Urg = 0 }), api.OK},
		{"Urg 65535", but(func(s *api.Segment) { s.Urg = 65535 }), api.OK},
		{"Urg 65536", but(func(s *api.Segment) { s.Urg = 65536 }), api.ErrArg},
		{"Urg -1", but(func(s *api.Segment) { s.Urg = -1 }), api.ErrArg},
		{"Flags 0", but(func(s *api.Segment) { s.Flags = 0 }), api.OK},
		{"Flags 255", but(func(s *api.Segment) { s.Flags = 255 }), api.OK},
		{"Flags 256", but(func(s *api.Segment) { s.Flags = 256 }), api.ErrArg},
		{"Flags -1", but(func(s *api.Segment) { s.Flags = -1 }), api.ErrArg},
		{"Mss -1", but(func(s *api.Segment) { s.Mss = -1 }), api.OK},
		{"Mss 0", but(func(s *api.Segment) { s.Mss = 0 }), api.OK},
		{"Mss 65535", but(func(s *api.Segment) { s.Mss = 65535 }), api.OK},
		{"Mss 65536", but(func(s *api.Segment) { s.Mss = 65536 }), api.ErrArg},
		{"Mss -2", but(func(s *api.Segment) { s.Mss = -2 }), api.ErrArg},
		{"Scale -1", but(func(s *api.Segment) { s.Scale = -1 }), api.OK},
		{"Scale 0", but(func(s *api.Segment) { s.Scale = 0 }), api.OK},
		{"Scale 14", but(func(s *api.Segment) { s.Scale = 14 }), api.OK},
		{"Scale 15", but(func(s *api.Segment) { s.Scale = 15 }), api.ErrArg},
		{"Scale -2", but(func(s *api.Segment) { s.Scale = -2 }), api.ErrArg},
		{"no Sacks", but(func(s *api.Segment) { s.Sacks = []api.Block{} }), api.OK},
		{"1 Sack", but(func(s *api.Segment) { s.Sacks = blocks(1) }), api.OK},
		{"4 Sacks", but(func(s *api.Segment) { s.Sacks = blocks(4) }), api.OK},
		{"5 Sacks", but(func(s *api.Segment) { s.Sacks = blocks(5) }), api.ErrArg},
		{"32 Sacks, whose length has no byte", but(func(s *api.Segment) { s.Sacks = blocks(32) }), api.ErrArg},
		{"4 of more Sacks", but(func(s *api.Segment) { s.Sacks = blocks(9)[:4] }), api.OK},
		{"no Data", but(func(s *api.Segment) { s.Data = nil }), api.OK},
		{"Data of 65000", but(func(s *api.Segment) { s.Data = make([]byte, 65000) }), api.OK},
		{"Data of 65001", but(func(s *api.Segment) { s.Data = make([]byte, 65001) }), api.ErrArg},
		{"Data of 65000 with more room", but(func(s *api.Segment) { s.Data = make([]byte, 65000, 70000) }), api.OK},
		{"Val without Stamped", but(func(s *api.Segment) { s.Val = 1 }), api.ErrArg},
		{"Ecr without Stamped", but(func(s *api.Segment) { s.Ecr = 0x80000000 }), api.ErrArg},
		{"both without Stamped", but(func(s *api.Segment) { s.Val, s.Ecr = 1, 1 }), api.ErrArg},
		{"both with Stamped", but(func(s *api.Segment) { s.Stamped, s.Val, s.Ecr = true, 1, 1 }), api.OK},
		{"Stamped of noughts", but(func(s *api.Segment) { s.Stamped = true }), api.OK},
		// 4 Sacks have 34 bytes: 6 more may be
		{"4 Sacks, Mss", but(func(s *api.Segment) { s.Sacks, s.Mss = blocks(4), 1 }), api.OK},
		{"4 Sacks, Mss, SackOk", but(func(s *api.Segment) { s.Sacks, s.Mss, s.SackOk = blocks(4), 1, true }), api.OK},
		{"4 Sacks, Scale, SackOk", but(func(s *api.Segment) { s.Sacks, s.Scale, s.SackOk = blocks(4), 1, true }), api.OK},
		{"4 Sacks, Mss, Scale", but(func(s *api.Segment) { s.Sacks, s.Mss, s.Scale = blocks(4), 1, 1 }), api.ErrArg},
		{"4 Sacks, Stamped", but(func(s *api.Segment) { s.Sacks, s.Stamped = blocks(4), true }), api.ErrArg},
		{"3 Sacks, Stamped, Mss", but(func(s *api.Segment) { s.Sacks, s.Stamped, s.Mss = blocks(3), true, 1 }), api.OK},
		{"3 Sacks, Stamped, Mss, SackOk", but(func(s *api.Segment) { s.Sacks, s.Stamped, s.Mss, s.SackOk = blocks(3), true, 1, true }), api.ErrArg},
		{"all, and a third Sack", func() api.Segment { s := full(); s.Sacks = blocks(3); return s }(), api.ErrArg},
	} {
		if got := wire.Check(c.s); got != c.want {
			t.Errorf("Check(%s) = %d, want %d", c.name, got, c.want)
		}
		if b, got := wire.Put(c.s, src, dst); got != c.want || (got != api.OK && len(b) != 0) {
			t.Errorf("Put(%s) = %d bytes, %d, want %d", c.name, len(b), got, c.want)
		}
	}
}

// P3.2

func TestOptions(t *testing.T) {
	for _, c := range []struct {
		name string
		s    api.Segment
		want string
	}{
		{"none", plain(), ""},
		{"Mss", but(func(s *api.Segment) { s.Mss = 1460 }), "02 04 05 b4"},
		{"Mss 0", but(func(s *api.Segment) { s.Mss = 0 }), "02 04 00 00"},
		{"Mss 65535", but(func(s *api.Segment) { s.Mss = 65535 }), "02 04 ff ff"},
		{"Mss below -1", but(func(s *api.Segment) { s.Mss = -7 }), ""},
		{"Scale", but(func(s *api.Segment) { s.Scale = 9 }), "03 03 09 00"},
		{"Scale 0", but(func(s *api.Segment) { s.Scale = 0 }), "03 03 00 00"},
		{"Scale 14", but(func(s *api.Segment) { s.Scale = 14 }), "03 03 0e 00"},
		{"Scale below -1", but(func(s *api.Segment) { s.Scale = math.MinInt }), ""},
		{"SackOk", but(func(s *api.Segment) { s.SackOk = true }), "04 02 00 00"},
		{"Stamped", but(func(s *api.Segment) { s.Stamped, s.Val, s.Ecr = true, 0x01020304, 0xa5b6c7d8 }), "08 0a 01 02 03 04 a5 b6 c7 d8 00 00"},
		{"Stamped of noughts", but(func(s *api.Segment) { s.Stamped = true }), "08 0a 00 00 00 00 00 00 00 00 00 00"},
		{"Val and Ecr without Stamped", but(func(s *api.Segment) { s.Val, s.Ecr = 1, 2 }), ""},
		{"no Sacks", but(func(s *api.Segment) { s.Sacks = []api.Block{} }), ""},
		{"1 Sack", but(func(s *api.Segment) { s.Sacks = []api.Block{{From: 0x01020304, To: 0xfffefdfc}} }), "05 0a 01 02 03 04 ff fe fd fc 00 00"},
		{"2 Sacks", but(func(s *api.Segment) { s.Sacks = []api.Block{{From: 3, To: 4}, {From: 1, To: 2}} }), "05 12 00000003 00000004 00000001 00000002 00 00"},
		{"4 Sacks", but(func(s *api.Segment) {
			s.Sacks = []api.Block{{From: 1, To: 2}, {From: 3, To: 4}, {From: 5, To: 6}, {From: 7, To: 8}}
		}),
			"05 22 00000001 00000002 00000003 00000004 00000005 00000006 00000007 00000008 00 00"},
		{"Mss and Scale", but(func(s *api.Segment) { s.Mss, s.Scale = 1, 2 }), "02 04 00 01 03 03 02 00"},
		{"Scale and SackOk", but(func(s *api.Segment) { s.Scale, s.SackOk = 2, true }), "03 03 02 04 02 00 00 00"},
		{"of a zero value", api.Segment{}, "02 04 00 00 03 03 00 00"},
		{"all", full(), "02 04 05 b4 03 03 07 04 02 08 0a 01020304 05060708 05 12 00000001 00000002 fffffffe 80000001 00 00 00"},
	} {
		if got, want := wire.Options(c.s), unhex(c.want); !bytes.Equal(got, want) {
			t.Errorf("Options(%s) = %x, want %x", c.name, got, want)
		}
	}
}

// Options hang on nothing else of a segment, and are padded to words, not more.
func TestOptionsAlone(t *testing.T) {
	m := mixer(1)
	for range 500 {
		s := m.segment()
		only := api.Segment{Mss: s.Mss, Scale: s.Scale, SackOk: s.SackOk, Stamped: s.Stamped, Val: s.Val, Ecr: s.Ecr, Sacks: s.Sacks}
		got := wire.Options(s)
		if !bytes.Equal(got, wire.Options(only)) {
			t.Fatalf("Options(%+v) hang on more than options", s)
		}
		want := wantOptions(s)
		if !bytes.Equal(got, want) {
			t.Fatalf("Options(%+v) = %x, want %x", s, got, want)
		}
	}
}

// Of a segment that may not be options are written all the same, numbers by their low bytes.
func TestOptionsOfWhatMayNotBe(t *testing.T) {
	s := plain()
	s.Mss, s.Scale, s.Sacks = 65536+258, 256+3, blocks(200)
	got := wire.Options(s)
	if len(got) != 4+3+2+8*200+3 || !bytes.HasPrefix(got, unhex("02 04 01 02 03 03 03 05")) {
		t.Errorf("Options = %d bytes, %x", len(got), got[:12])
	}
	if e := wire.Check(s); e != api.ErrArg {
		t.Errorf("Check = %d", e)
	}
}

// wantOptions writes options by P3.2's words.
func wantOptions(s api.Segment) []byte {
	var b bytes.Buffer
	put := func(parts ...any) {
		for _, p := range parts {
			if err := binary.Write(&b, binary.BigEndian, p); err != nil {
				panic(err)
			}
		}
	}
	if s.Mss >= 0 {
		put(uint8(2), uint8(4), uint16(s.Mss))
	}
	if s.Scale >= 0 {
		put(uint8(3), uint8(3), uint8(s.Scale))
	}
	if s.SackOk {
		put(uint8(4), uint8(2))
	}
	if s.Stamped {
		put(uint8(8), uint8(10), s.Val, s.Ecr)
	}
	if n := len(s.Sacks); n > 0 {
		put(uint8(5), uint8(2+8*n), s.Sacks)
	}
	put(make([]byte, (4-b.Len()%4)%4))
	return b.Bytes()
}

// P3.3

func TestPut(t *testing.T) {
	for _, c := range []struct {
		name     string
		s        api.Segment
		src, dst uint32
		want     string
	}{
		{"noughts", api.Segment{Mss: -1, Scale: -1}, 0, 0, "0000 0000 00000000 00000000 50 00 0000 afe5 0000"},
		{"plain", plain(), src, dst, "1234 5678 9abcdef0 01020304 50 18 fedc c103 7a7b 616263"},
		{"full", full(), math.MaxUint32, math.MaxUint32, "ffff ffff ffffffff ffffffff f0 ff ffff c85f ffff" +
			"02 04 05 b4 03 03 07 04 02 08 0a 01020304 05060708 05 12 00000001 00000002 fffffffe 80000001 00 00 00 ff"},
	} {
		if got, e := wire.Put(c.s, c.src, c.dst); e != api.OK || !bytes.Equal(got, unhex(c.want)) {
			t.Errorf("Put(%s) = %x, %d, want %s", c.name, got, e, c.want)
		}
	}
}

func TestPutExamples(t *testing.T) {
	s := plain()
	s.Data = nil
	if b, e := wire.Put(s, src, dst); e != api.OK || len(b) != 20 {
		t.Errorf("Put without options and data = %d bytes, %d, want 20", len(b), e)
	}
	s.Stamped = true
	if b, e := wire.Put(s, src, dst); e != api.OK || len(b) != 32 || b[12] != 0x80 {
		t.Errorf("Put with Stamped = %d bytes, %d, want 32", len(b), e)
	}
}

// wantPut writes a segment by P3.3's words.
func wantPut(s api.Segment, src, dst uint32) []byte {
	options := wantOptions(s)
	b := binary.BigEndian.AppendUint16(nil, uint16(s.SrcPort))
	b = binary.BigEndian.AppendUint16(b, uint16(s.DstPort))
	b = binary.BigEndian.AppendUint32(b, s.Seq)
	b = binary.BigEndian.AppendUint32(b, s.Ack)
	b = append(b, uint8(16*(5+len(options)/4)), uint8(s.Flags))
	b = binary.BigEndian.AppendUint16(b, uint16(s.Win))
	b = append(b, 0, 0)
	b = binary.BigEndian.AppendUint16(b, uint16(s.Urg))
	b = slices.Concat(b, options, s.Data)
	binary.BigEndian.PutUint16(b[16:], checksum(b, src, dst))
	return b
}

func TestPutOfManySegments(t *testing.T) {
	m := mixer(2)
	refused, put := 0, 0
	for range 2000 {
		s, from, to := m.segment(), m.long(), m.long()
		want, wantE := wantPut(s, from, to), api.OK
		if len(wantOptions(s)) > 40 {
			want, wantE = nil, api.ErrArg
			refused++
		} else {
			put++
		}
		got, e := wire.Put(s, from, to)
		if e != wantE || !bytes.Equal(got, want) {
			t.Fatalf("Put(%+v) = %x, %d, want %x, %d", s, got, e, want, wantE)
		}
		if e := wire.Check(s); e != wantE {
			t.Fatalf("Check(%+v) = %d, want %d", s, e, wantE)
		}
	}
	if refused < 100 || put < 1000 {
		t.Errorf("%d refused and %d put: too few to tell", refused, put)
	}
}

func TestPutOfTheMost(t *testing.T) {
	m := mixer(3)
	s := full()
	s.Data = m.bytes(65000)
	b, e := wire.Put(s, src, dst)
	if e != api.OK || len(b) != 65060 || !bytes.Equal(b, wantPut(s, src, dst)) {
		t.Fatalf("Put = %d bytes, %d", len(b), e)
	}
	if got, e := wire.Get(b, src, dst); e != api.OK || !same(got, s) {
		t.Errorf("Get = %d bytes of Data, %d", len(got.Data), e)
	}
}

// P3.4

func TestGet(t *testing.T) {
	for _, c := range []struct {
		name     string
		src, dst uint32
		b        string
		want     api.Segment
	}{
		{"noughts", 0, 0, "0000 0000 00000000 00000000 50 00 0000 afe5 0000", api.Segment{Mss: -1, Scale: -1}},
		{"plain", src, dst, "1234 5678 9abcdef0 01020304 50 18 fedc c103 7a7b 616263", plain()},
		{"full", math.MaxUint32, math.MaxUint32, "ffff ffff ffffffff ffffffff f0 ff ffff c85f ffff" +
			"02 04 05 b4 03 03 07 04 02 08 0a 01020304 05060708 05 12 00000001 00000002 fffffffe 80000001 00 00 00 ff", full()},
	} {
		if got, e := wire.Get(unhex(c.b), c.src, c.dst); e != api.OK || !same(got, c.want) {
			t.Errorf("Get(%s) = %+v, %d, want %+v", c.name, got, e, c.want)
		}
	}
}

// refused holds that Get answers want, and nothing beside it.
func refused(t *testing.T, name string, b []byte, want api.Errno) {
	t.Helper()
	if s, e := wire.Get(b, src, dst); e != want || !isZero(s) {
		t.Errorf("Get(%s) = %+v, %d, want %d and nothing", name, s, e, want)
	}
}

// withOffset puts an offset into bytes; their checksum is right, or off by one.
func withOffset(b []byte, offset byte, off byte) []byte {
	b[12] = offset<<4 | b[12]&15
	seal(b)[17] ^= off
	return b
}

func TestGetOfFewBytes(t *testing.T) {
	whole := raw(nil, nil)
	for n := range 20 {
		refused(t, "fewer than 20", whole[:n], api.ErrShort)
		refused(t, "fewer than 20, with room", append(make([]byte, 0, 64), whole[:n]...), api.ErrShort)
	}
	refused(t, "nil", nil, api.ErrShort)
	// ahead of an offset that is too low
	refused(t, "19 noughts", make([]byte, 19), api.ErrShort)
	if s, e := wire.Get(whole, src, dst); e != api.OK || s.SrcPort != 0x1234 {
		t.Errorf("Get of 20 bytes = %+v, %d", s, e)
	}
}

func TestGetOfOffsets(t *testing.T) {
	for offset := range byte(16) {
		for _, n := range []int{20, 21, 23, 24, 59, 60, 61, 100} {
			want := api.OK
			if offset < 5 {
				want = api.ErrWire
			} else if 4*int(offset) > n {
				want = api.ErrShort
			}
			b := withOffset(append(raw(nil, nil), make([]byte, n-20)...), offset, 0)
			s, e := wire.Get(b, src, dst)
			if e != want {
				t.Errorf("Get of offset %d in %d bytes = %d, want %d", offset, n, e, want)
			}
			if want == api.OK && len(s.Data) != n-4*int(offset) || want != api.OK && !isZero(s) {
				t.Errorf("Get of offset %d in %d bytes = %+v", offset, n, s)
			}
			// what is wrong with the offset is told ahead of the checksum
			if want == api.OK {
				want = api.ErrSum
			}
			refused(t, "a wrong checksum", withOffset(b, offset, 1), want)
		}
	}
}

// What stands in the low half of byte 12 means nothing, but the checksum counts it.
func TestGetOfReservedBits(t *testing.T) {
	for low := range byte(16) {
		b := raw(unhex("03 03 05"), []byte("xyz"))
		b[12] |= low
		want := but(func(s *api.Segment) { s.Scale, s.Data = 5, []byte("xyz") })
		if s, e := wire.Get(seal(b), src, dst); e != api.OK || !same(s, want) {
			t.Errorf("Get with %d in the low half = %+v, %d", low, s, e)
		}
	}
}

func TestGetOfWrongSums(t *testing.T) {
	b := raw(unhex("02 04 05 b4"), []byte("abcde"))
	for _, c := range []struct{ src, dst uint32 }{{src + 1, dst}, {src, dst + 1}, {src ^ 1<<31, dst}, {src, dst ^ 1<<31}, {0, 0}} {
		if s, e := wire.Get(b, c.src, c.dst); e != api.ErrSum || !isZero(s) {
			t.Errorf("Get with addresses %x, %x = %+v, %d, want ErrSum", c.src, c.dst, s, e)
		}
	}
	// the length is in the checksum
	refused(t, "a byte more", append(slices.Clone(b), 0), api.ErrSum)
	refused(t, "a byte less", b[:len(b)-1], api.ErrSum)
	// ahead of options and data that are wrong
	wrong := raw(unhex("02 03 05 b4"), nil)
	refused(t, "a wrong option", wrong, api.ErrWire)
	wrong[16] ^= 128
	refused(t, "a wrong option and a wrong checksum", wrong, api.ErrSum)
	long := raw(nil, make([]byte, 65001))
	refused(t, "much data", long, api.ErrWire)
	long[16] ^= 128
	refused(t, "much data and a wrong checksum", long, api.ErrSum)
}

func TestGetOfMuchData(t *testing.T) {
	m := mixer(4)
	for _, options := range [][]byte{nil, unhex("04 02"), make([]byte, 40)} {
		data := m.bytes(65000)
		s, e := wire.Get(raw(options, data), src, dst)
		if e != api.OK || !bytes.Equal(s.Data, data) {
			t.Errorf("Get of 65000 bytes behind %d = %d bytes, %d", len(options), len(s.Data), e)
		}
		refused(t, "one byte more", raw(options, append(data, 0)), api.ErrWire)
	}
	for _, n := range []int{65515, 65516, 65517, 65536, 131072, 200001} {
		refused(t, "many bytes", raw(nil, make([]byte, n)), api.ErrWire)
	}
	refused(t, "much data and a wrong option", raw(unhex("02 03 05 b4"), make([]byte, 65001)), api.ErrWire)
}

func TestGetReadsOptions(t *testing.T) {
	for _, c := range []struct {
		name    string
		options string
		want    func(*api.Segment)
	}{
		{"none", "", func(s *api.Segment) {}},
		{"Mss", "02 04 05 b4", func(s *api.Segment) { s.Mss = 1460 }},
		{"Mss 0", "02 04 00 00", func(s *api.Segment) { s.Mss = 0 }},
		{"Mss 65535", "02 04 ff ff", func(s *api.Segment) { s.Mss = 65535 }},
		{"Scale", "03 03 07 00", func(s *api.Segment) { s.Scale = 7 }},
		{"Scale 0", "03 03 00 00", func(s *api.Segment) { s.Scale = 0 }},
		{"Scale 13", "03 03 0d 00", func(s *api.Segment) { s.Scale = 13 }},
		{"Scale 14", "03 03 0e 00", func(s *api.Segment) { s.Scale = 14 }},
		{"Scale above 14", "03 03 0f 00", func(s *api.Segment) { s.Scale = 14 }},
		{"Scale 255", "03 03 ff 00", func(s *api.Segment) { s.Scale = 14 }},
		{"SackOk", "04 02 00 00", func(s *api.Segment) { s.SackOk = true }},
		{"Stamped", "08 0a 01 02 03 04 a5 b6 c7 d8 00 00", func(s *api.Segment) { s.Stamped, s.Val, s.Ecr = true, 0x01020304, 0xa5b6c7d8 }},
		{"Stamped of noughts", "08 0a 00 00 00 00 00 00 00 00 00 00", func(s *api.Segment) { s.Stamped = true }},
		{"1 Sack", "05 0a 01 02 03 04 ff fe fd fc 00 00", func(s *api.Segment) { s.Sacks = []api.Block{{From: 0x01020304, To: 0xfffefdfc}} }},
		{"2 Sacks", "05 12 00000003 00000004 00000001 00000002", func(s *api.Segment) { s.Sacks = []api.Block{{From: 3, To: 4}, {From: 1, To: 2}} }},
		{"3 Sacks of noughts", "05 1a" + strings.Repeat("00000000 00000000", 3), func(s *api.Segment) { s.Sacks = make([]api.Block, 3) }},
		{"4 Sacks", "05 22 00000001 00000002 00000003 00000004 00000005 00000006 00000007 00000008",
			func(s *api.Segment) {
				s.Sacks = []api.Block{{From: 1, To: 2}, {From: 3, To: 4}, {From: 5, To: 6}, {From: 7, To: 8}}
			}},
		{"all, in another order", "05 0a 00000001 00000002 08 0a 00000003 00000004 04 02 03 03 02 02 04 00 01",
			func(s *api.Segment) {
				s.Sacks, s.Stamped, s.Val, s.Ecr, s.SackOk, s.Scale, s.Mss = []api.Block{{From: 1, To: 2}}, true, 3, 4, true, 2, 1
			}},
		{"1 is passed over", "01 01 01 01", func(s *api.Segment) {}},
		{"1 ahead, between and behind", "01 03 03 04 01 01 04 02 01 01 01 01", func(s *api.Segment) { s.Scale, s.SackOk = 4, true }},
		{"the timestamp as it is mostly written", "01 01 08 0a 00000007 00000009", func(s *api.Segment) { s.Stamped, s.Val, s.Ecr = true, 7, 9 }},
		{"0 ends them", "00 04 02 01", func(s *api.Segment) {}},
		{"0 ends them behind one", "04 02 00 03 03 07 00 00", func(s *api.Segment) { s.SackOk = true }},
		{"0 ends them ahead of a second", "04 02 00 00 04 02 00 00", func(s *api.Segment) { s.SackOk = true }},
		{"0 ends them ahead of what is wrong", "04 02 00 02 00 ff ff ff", func(s *api.Segment) { s.SackOk = true }},
		{"another kind", "06 04 02 04 04 02 00 00", func(s *api.Segment) { s.SackOk = true }},
		{"another kind, of the least length", "07 02 04 02", func(s *api.Segment) { s.SackOk = true }},
		{"another kind twice", "fe 03 01 fe 03 01 04 02", func(s *api.Segment) { s.SackOk = true }},
		{"another kind to the end", "ff 04 ff ff", func(s *api.Segment) {}},
		{"another kind over all", "09 28" + strings.Repeat("02", 38), func(s *api.Segment) {}},
		{"zeros within an option", "06 04 00 00 02 04 00 00", func(s *api.Segment) { s.Mss = 0 }},
		{"38 bytes, and a length that fits", strings.Repeat("01", 38) + "04 02", func(s *api.Segment) { s.SackOk = true }},
	} {
		want := but(c.want)
		if got, e := wire.Get(raw(unhex(c.options), []byte("abc")), src, dst); e != api.OK || !same(got, want) {
			t.Errorf("Get(%s) = %+v, %d, want %+v", c.name, got, e, want)
		}
	}
}

// Every kind but 0 and 1 with every length from 0 to 44, in 40 bytes of options.
func TestGetOfOptionLengths(t *testing.T) {
	right := map[int][]int{2: {4}, 3: {3}, 4: {2}, 8: {10}, 5: {10, 18, 26, 34}}
	for kind := 2; kind < 256; kind++ {
		for n := range 45 {
			// what follows would be read as further options, so that it is 1 throughout
			options := bytes.Repeat([]byte{1}, 40)
			options[0], options[1] = byte(kind), byte(n)
			lengths, known := right[kind]
			want := api.OK
			if n < 2 || n > 40 || known && !slices.Contains(lengths, n) {
				want = api.ErrWire
			}
			s, e := wire.Get(raw(options, nil), src, dst)
			if e != want || e != api.OK && !isZero(s) {
				t.Errorf("Get of kind %d with length %d = %+v, %d, want %d", kind, n, s, e, want)
			}
		}
	}
}

func TestGetOfWrongOptions(t *testing.T) {
	for _, c := range []struct{ name, options string }{
		{"Mss of 3", "02 03 05 b4"},
		{"Mss of 5", "02 05 05 b4 00 00 00 00"},
		{"Scale of 2", "03 02 00 00"},
		{"Scale of 4", "03 04 07 00"},
		{"SackOk of 3", "04 03 00 00"},
		{"Stamped of 9", "08 09 00000000 00000000 00 00"},
		{"Stamped of 11", "08 0b 00000000 00000000 00 00"},
		{"Sacks of none", "05 02 00 00"},
		{"Sacks of a half", "05 06 00000000 00 00"},
		{"Sacks of 1 and a byte", "05 0b 00000000 00000000 00 00"},
		{"Sacks of 5", "05 2a" + strings.Repeat("00", 38)},
		{"Mss of length 0", "02 00 05 b4"},
		{"Mss of length 1", "02 01 05 b4"},
		{"another kind of length 0", "09 00 01 01"},
		{"another kind of length 1", "09 01 01 01"},
		{"Mss beyond the options", "01 01 02 04"},
		{"Mss one byte beyond the options", "01 02 04 05"},
		{"another kind beyond the options", "01 09 04 01"},
		{"another kind far beyond", "09 ff 01 01"},
		{"a kind without its length", "01 01 01 02"},
		{"another kind without its length", "01 01 01 09"},
		{"behind another that is right", "04 02 03 02"},
		{"two of Mss", "02 04 05 b4 02 04 05 b4"},
		{"two of Mss, the first of 0", "02 04 00 00 02 04 05 b4"},
		{"two of Scale", "03 03 00 03 03 00 01 01"},
		{"two of SackOk", "04 02 04 02"},
		{"two of Stamped", "08 0a 00000000 00000000 08 0a 00000000 00000000"},
		{"two of Sacks", "05 0a 00000000 00000000 05 0a 00000000 00000000"},
		{"two of SackOk, apart", "04 02 01 02 04 00 00 04 02 01 01 01"},
	} {
		refused(t, c.name, raw(unhex(c.options), nil), api.ErrWire)
		// data behind the options do not make them longer
		refused(t, c.name+", with data", raw(unhex(c.options), make([]byte, 300)), api.ErrWire)
	}
}

// errWrong is what wantOptionsRead answers of options that are wrong.
var errWrong = errors.New("wrong")

// wantOptionsRead reads options by P3.4's words, from place to place.
func wantOptionsRead(o []byte) (api.Segment, error) {
	s := api.Segment{Mss: -1, Scale: -1}
	times := map[byte]int{}
	for i := 0; i < len(o) && o[i] != 0; {
		if o[i] == 1 {
			i++
			continue
		}
		if i+1 == len(o) || o[i+1] < 2 || i+int(o[i+1]) > len(o) {
			return s, errWrong
		}
		kind, n := o[i], int(o[i+1])
		lengths := map[byte]string{2: " 4 ", 3: " 3 ", 4: " 2 ", 8: " 10 ", 5: " 10 18 26 34 "}
		fits, known := lengths[kind]
		times[kind]++
		if known && (times[kind] > 1 || !strings.Contains(fits, " "+decimal(n)+" ")) {
			return s, errWrong
		}
		switch kind {
		case 2:
			s.Mss = int(o[i+2])*256 + int(o[i+3])
		case 3:
			s.Scale = int(o[i+2])
			if s.Scale > 14 {
				s.Scale = 14
			}
		case 4:
			s.SackOk = true
		case 8:
			s.Stamped, s.Val, s.Ecr = true, binary.BigEndian.Uint32(o[i+2:]), binary.BigEndian.Uint32(o[i+6:])
		case 5:
			for k := i + 2; k < i+n; k += 8 {
				s.Sacks = append(s.Sacks, api.Block{From: binary.BigEndian.Uint32(o[k:]), To: binary.BigEndian.Uint32(o[k+4:])})
			}
		}
		i += n
	}
	return s, nil
}

// decimal writes a number from 0 to 99.
func decimal(n int) string {
	if n < 10 {
		return string(rune('0' + n))
	}
	return string(rune('0'+n/10)) + string(rune('0'+n%10))
}

// someOptions answers options that are mostly right.
func (m *mixer) someOptions() []byte {
	var b []byte
	for len(b) < 40 && m.next(8) != 0 {
		kind := m.pick(0, 1, 1, 2, 3, 4, 5, 8, 9, m.next(256))
		lengths := map[int]int{2: 4, 3: 3, 4: 2, 8: 10, 5: 2 + 8*m.pick(1, 1, 2, 3, 4, 0, 5)}
		n, known := lengths[kind]
		if !known {
			n = m.pick(2, 3, 4, 5, 8, 0, 1)
		}
		if m.next(15) == 0 {
			n = m.next(50)
		}
		b = append(b, byte(kind))
		if kind > 1 {
			b = append(append(b, byte(n)), m.bytes(max(n-2, 0))...)
		}
	}
	return b[:min(len(b), m.pick(4, 8, 12, 20, 36, 40, 40, 40))]
}

func TestGetOfManyOptions(t *testing.T) {
	m := mixer(5)
	right, wrong := 0, 0
	for range 20000 {
		b := raw(m.someOptions(), m.bytes(m.next(3)))
		got, e := wire.Get(b, src, dst)
		dataAt := int(b[12]>>4) * 4
		want, err := wantOptionsRead(b[20:dataAt])
		if err != nil {
			wrong++
			if e != api.ErrWire || !isZero(got) {
				t.Fatalf("Get(%x) = %+v, %d, want ErrWire", b, got, e)
			}
			continue
		}
		right++
		head := plain()
		want.SrcPort, want.DstPort, want.Seq, want.Ack = head.SrcPort, head.DstPort, head.Seq, head.Ack
		want.Flags, want.Win, want.Urg, want.Data = head.Flags, head.Win, head.Urg, b[dataAt:]
		if e != api.OK || !same(got, want) {
			t.Fatalf("Get(%x) = %+v, %d, want %+v", b, got, e, want)
		}
		putAnew(t, got)
	}
	if right < 2000 || wrong < 2000 {
		t.Errorf("%d right and %d wrong: too few to tell", right, wrong)
	}
}

// P3.5

// putAnew holds that a segment that was read may be, and is read again as it was.
func putAnew(t *testing.T, s api.Segment) {
	t.Helper()
	if e := wire.Check(s); e != api.OK {
		t.Fatalf("Check of what was read, %+v, = %d", s, e)
	}
	b, e := wire.Put(s, dst, src+1)
	if e != api.OK {
		t.Fatalf("Put of what was read, %+v, = %d", s, e)
	}
	got, e := wire.Get(b, dst, src+1)
	if e != api.OK || !same(got, s) {
		t.Fatalf("Get of Put of %+v = %+v, %d", s, got, e)
	}
	if again, e := wire.Put(got, dst, src+1); e != api.OK || !bytes.Equal(again, b) {
		t.Fatalf("Put of Get of %x = %x, %d", b, again, e)
	}
}

func TestGetOfPut(t *testing.T) {
	m := mixer(6)
	for range 3000 {
		s, from, to := m.segment(), m.long(), m.long()
		b, e := wire.Put(s, from, to)
		if e != api.OK {
			continue
		}
		if got, e := wire.Get(b, from, to); e != api.OK || !same(got, s) {
			t.Fatalf("Get of Put of %+v = %+v, %d", s, got, e)
		}
		putAnew(t, s)
	}
}

// Every way in which options are there or not, with what they hold at its edges.
func TestGetOfPutOfAllOptions(t *testing.T) {
	for _, mss := range []int{-1, 0, 1, 255, 256, 65535} {
		for scale := -1; scale <= 14; scale++ {
			for sacks := range 5 {
				for bits := range 4 {
					s := plain()
					s.Mss, s.Scale, s.Sacks = mss, scale, blocks(sacks)
					s.SackOk, s.Stamped = bits&1 != 0, bits&2 != 0
					if s.Stamped {
						s.Val, s.Ecr = 0x80000000, 1
					}
					b, e := wire.Put(s, src, dst)
					if len(wantOptions(s)) > 40 {
						if e != api.ErrArg || len(b) != 0 {
							t.Fatalf("Put(%+v) = %x, %d, want ErrArg", s, b, e)
						}
						continue
					}
					if got, f := wire.Get(b, src, dst); e != api.OK || f != api.OK || !same(got, s) {
						t.Fatalf("Get of Put of %+v = %+v, %d, %d", s, got, e, f)
					}
				}
			}
		}
	}
}

func TestTurnedBits(t *testing.T) {
	for _, s := range []api.Segment{plain(), full(), {Mss: -1, Scale: -1}, but(func(s *api.Segment) { s.Stamped, s.Val, s.Ecr, s.Data = true, 9, 0, make([]byte, 9) })} {
		b, e := wire.Put(s, src, dst)
		if e != api.OK {
			t.Fatalf("Put(%+v) = %d", s, e)
		}
		for bit := range 8 * len(b) {
			turned := slices.Clone(b)
			turned[bit/8] ^= 128 >> (bit % 8)
			want := api.ErrSum
			if offset := turned[12] >> 4; offset < 5 {
				want = api.ErrWire
			} else if 4*int(offset) > len(b) {
				want = api.ErrShort
			}
			refused(t, "a turned bit", turned, want)
		}
	}
}

// Rules that hold everywhere

// R1: nothing panics, whatever the bytes.
func TestGetOfAnyBytes(t *testing.T) {
	m := mixer(7)
	read := 0
	for range 20000 {
		b := m.bytes(m.next(90))
		if len(b) >= 20 && m.next(4) != 0 {
			seal(b)
		}
		s, e := wire.Get(b, src, dst)
		if e != api.OK && !isZero(s) {
			t.Fatalf("Get(%x) = %+v, %d", b, s, e)
		}
		if e == api.OK {
			read++
			putAnew(t, s)
		}
	}
	if read < 100 {
		t.Errorf("%d read: too few to tell", read)
	}
}

// R3: what is handed in is not changed.
func TestInputsStay(t *testing.T) {
	s := full()
	s.Sacks, s.Data = append(make([]api.Block, 0, 9), s.Sacks...), append(make([]byte, 0, 99), s.Data...)
	kept := clone(s)
	wire.Check(s)
	wire.Options(s)
	b, _ := wire.Put(s, src, dst)
	if !same(s, kept) || !slices.Equal(s.Sacks[:9][2:], make([]api.Block, 7)) || !bytes.Equal(s.Data[:99][1:], make([]byte, 98)) {
		t.Errorf("a segment was changed: %+v", s)
	}
	bytesKept := slices.Clone(b)
	wire.Get(b, src, dst)
	b[16] ^= 1
	wire.Get(b, src, dst)
	b[16] ^= 1
	if !bytes.Equal(b, bytesKept) {
		t.Errorf("bytes were changed: %x, were %x", b, bytesKept)
	}
}

// R3: what is answered is new memory.
func TestAnswersAreNew(t *testing.T) {
	s := full()
	kept := clone(s)
	b, _ := wire.Put(s, src, dst)
	got, _ := wire.Get(b, src, dst)
	options := wire.Options(s)
	bytesKept, gotKept := slices.Clone(b), clone(got)
	clear(options)
	clear(wire.Options(s))
	clear(got.Data)
	clear(got.Sacks)
	if !same(s, kept) || !bytes.Equal(b, bytesKept) {
		t.Errorf("an answer shares what was handed in")
	}
	got, _ = wire.Get(b, src, dst)
	clear(b)
	if !same(got, gotKept) || !same(s, kept) {
		t.Errorf("what was read, %+v, shares its bytes", got)
	}
	b, _ = wire.Put(s, src, dst)
	clear(s.Data)
	clear(s.Sacks)
	if !bytes.Equal(b, bytesKept) {
		t.Errorf("bytes share the segment that they were made of")
	}
	// nothing that is appended to data comes into bytes
	b = append(make([]byte, 0, 2*len(b)), b...)
	got, _ = wire.Get(b, src, dst)
	_ = append(got.Data, 0xee)
	if b[:len(b)+1][len(b)] != 0 {
		t.Errorf("data have their room in the bytes")
	}
}
