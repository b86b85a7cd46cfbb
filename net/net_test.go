package net_test

import (
	"bytes"
	"math"
	"slices"
	"testing"

	"tideway/api"
	"tideway/net"
)

// sent answers datagrams of these texts, the first sent at 10, each of the others 10 later.
func sent(texts ...string) []api.Datagram {
	var l []api.Datagram
	for i, text := range texts {
		l = append(l, api.Datagram{Data: []byte(text), Sent: 10 * (i + 1)})
	}
	return l
}

// rows are rows of datagrams that may be: none, one, several, alike, without bytes, with odd times.
func rows() [][]api.Datagram {
	return [][]api.Datagram{
		nil,
		{},
		sent("a"),
		sent(""),
		{{Data: nil, Sent: 3}},
		sent("a", "b"),
		sent("a", "a", "a"),
		sent("a", "", "bc", "", "def"),
		{{Data: []byte("late"), Sent: 9}, {Data: []byte("early"), Sent: 1}, {Data: []byte("mid"), Sent: 5}},
		{{Data: []byte{0, 255}, Sent: math.MinInt}, {Data: []byte{128}, Sent: math.MaxInt}, {Data: []byte{1}, Sent: -1}},
		sent("zero", "one", "two", "three", "four", "five", "six", "seven"),
	}
}

// flight answers n datagrams, each with bytes of its own.
func flight(n int) []api.Datagram {
	l := make([]api.Datagram, n)
	for i := range l {
		l[i] = api.Datagram{Data: []byte{byte(i), byte(i >> 8), byte(i >> 16)}, Sent: i}
	}
	return l
}

// placesAbout are places in a row and about its ends.
func placesAbout(n int) []int {
	out := []int{math.MinInt, -n - 1, -n, -2, -1}
	for at := range n {
		out = append(out, at)
	}
	return append(out, n, n+1, 2*n+1, math.MaxInt)
}

// same tells whether two datagrams are alike, nil and empty bytes too.
func same(a, b api.Datagram) bool { return a.Sent == b.Sent && string(a.Data) == string(b.Data) }

// sameRow tells whether two rows are alike.
func sameRow(a, b []api.Datagram) bool { return slices.EqualFunc(a, b, same) }

// isZero tells whether a datagram is none.
func isZero(d api.Datagram) bool { return d.Sent == 0 && len(d.Data) == 0 }

// deep answers a row in memory of its own.
func deep(l []api.Datagram) []api.Datagram {
	var out []api.Datagram
	for _, d := range l {
		out = append(out, api.Datagram{Data: []byte(string(d.Data)), Sent: d.Sent})
	}
	return out
}

// wantLeft answers by P5.1's words a row without the one at a place.
func wantLeft(l []api.Datagram, at int) []api.Datagram {
	var out []api.Datagram
	for i, d := range deep(l) {
		if i != at {
			out = append(out, d)
		}
	}
	return out
}

// P5.1: Send

func TestSend(t *testing.T) {
	for _, l := range rows() {
		for _, data := range [][]byte{nil, {}, {0}, []byte("a"), []byte("hello"), make([]byte, api.MaxData+1)} {
			for _, now := range []int{math.MinInt, -1, 0, 1, 7, api.MaxTime, api.MaxTime + 1, math.MaxInt} {
				got, e := net.Send(l, data, now)
				want := append(deep(l), api.Datagram{Data: data, Sent: now})
				if e != api.OK || !sameRow(got, want) {
					t.Fatalf("Send(%v, %.9q, %d) = %v, %d", l, data, now, got, e)
				}
			}
		}
	}
}

func TestSendWhereFull(t *testing.T) {
	for _, n := range []int{api.MaxFlight - 2, api.MaxFlight - 1} {
		l := flight(n)
		got, e := net.Send(l, []byte("last"), 5)
		if e != api.OK || !sameRow(got, append(l, api.Datagram{Data: []byte("last"), Sent: 5})) {
			t.Errorf("Send of %d = %d datagrams, %d", n, len(got), e)
		}
	}
	for _, n := range []int{65536, api.MaxFlight, api.MaxFlight + 1, api.MaxFlight + 100, 2 * api.MaxFlight} {
		if got, e := net.Send(flight(n), []byte("last"), 5); e != api.ErrFull || len(got) != 0 {
			t.Errorf("Send of %d = %d datagrams, %d", n, len(got), e)
		}
	}
}

// What is sent up to the limit all stands there, in order, and then no more does.
func TestSendAfterTakeWhereFull(t *testing.T) {
	l := flight(api.MaxFlight)
	_, left, e := net.Take(l, 0)
	if e != api.OK || !sameRow(left, l[1:]) {
		t.Fatalf("Take of a full row = %d datagrams, %d", len(left), e)
	}
	again, e := net.Send(left, []byte("x"), 1)
	if e != api.OK || len(again) != api.MaxFlight || string(again[api.MaxFlight-1].Data) != "x" {
		t.Fatalf("Send after Take = %d datagrams, %d", len(again), e)
	}
	if _, e := net.Send(again, []byte("y"), 1); e != api.ErrFull {
		t.Errorf("Send after Send = %d", e)
	}
}

// P5.1: Take

func TestTake(t *testing.T) {
	for _, l := range rows() {
		for _, at := range placesAbout(len(l)) {
			d, left, e := net.Take(l, at)
			if at < 0 || at >= len(l) {
				if e != 50 || !isZero(d) || len(left) != 0 {
					t.Fatalf("Take(%v, %d) = %v, %v, %d", l, at, d, left, e)
				}
			} else if e != api.OK || !same(d, l[at]) || !sameRow(left, wantLeft(l, at)) {
				t.Fatalf("Take(%v, %d) = %v, %v, %d", l, at, d, left, e)
			}
		}
	}
}

// Take knows no limit: more than MaxFlight may be taken from.
func TestTakeOfMany(t *testing.T) {
	for _, n := range []int{api.MaxFlight - 1, api.MaxFlight, api.MaxFlight + 1} {
		l := flight(n)
		for _, at := range []int{0, n / 2, n - 1} {
			d, left, e := net.Take(l, at)
			if e != api.OK || !same(d, l[at]) || !sameRow(left, wantLeft(l, at)) {
				t.Errorf("Take of %d at %d = %v, %d left, %d", n, at, d, len(left), e)
			}
		}
		for _, at := range []int{-1, n} {
			if d, left, e := net.Take(l, at); e != api.ErrNet || !isZero(d) || len(left) != 0 {
				t.Errorf("Take of %d at %d = %v, %d left, %d", n, at, d, len(left), e)
			}
		}
	}
}

// P5.1: Double

func TestDouble(t *testing.T) {
	for _, l := range rows() {
		for _, at := range placesAbout(len(l)) {
			got, e := net.Double(l, at)
			if at < 0 || at >= len(l) {
				if e != 50 || len(got) != 0 {
					t.Fatalf("Double(%v, %d) = %v, %d", l, at, got, e)
				}
			} else if e != api.OK || !sameRow(got, append(deep(l), l[at])) {
				t.Fatalf("Double(%v, %d) = %v, %d", l, at, got, e)
			}
		}
	}
}

func TestDoubleWhereFull(t *testing.T) {
	for _, n := range []int{api.MaxFlight - 2, api.MaxFlight - 1, api.MaxFlight, api.MaxFlight + 1, 2 * api.MaxFlight} {
		l := flight(n)
		for _, at := range []int{math.MinInt, -1, 0, n / 2, n - 1, n, math.MaxInt} {
			want := api.OK
			switch {
			case at < 0 || at >= n: // named first, and so told where it is full too
				want = 50
			case n >= 65536:
				want = 70
			}
			got, e := net.Double(l, at)
			if e != want || e != api.OK && len(got) != 0 {
				t.Errorf("Double of %d at %d = %d datagrams, %d, want %d", n, at, len(got), e, want)
			}
			if e == api.OK && !sameRow(got, append(deep(l), l[at])) {
				t.Errorf("Double of %d at %d: the wrong datagrams", n, at)
			}
		}
	}
}

// Example 1 of the chapter.
func TestExample(t *testing.T) {
	l, e1 := net.Send(nil, []byte("a"), 1)
	l, e2 := net.Send(l, []byte("b"), 2)
	l, e3 := net.Double(l, 0)
	d, left, e4 := net.Take(l, 2)
	want := []api.Datagram{{Data: []byte("a"), Sent: 1}, {Data: []byte("b"), Sent: 2}}
	if e1 != 0 || e2 != 0 || e3 != 0 || e4 != 0 || !same(d, want[0]) || !sameRow(left, want) {
		t.Errorf("%v, and %v are left: %d %d %d %d", d, left, e1, e2, e3, e4)
	}
}

// P5.1: Spoil

func TestSpoil(t *testing.T) {
	cases := []struct {
		name string
		data []byte
		bit  int
		want []byte
	}{
		{"the lowest bit", []byte{0, 0, 0}, 0, []byte{1, 0, 0}},
		{"the next one", []byte{0, 0, 0}, 1, []byte{2, 0, 0}},
		{"the highest of the first byte", []byte{0, 0, 0}, 7, []byte{128, 0, 0}},
		{"the lowest of the second byte", []byte{0, 0, 0}, 8, []byte{0, 1, 0}},
		{"the last one", []byte{0, 0, 0}, 23, []byte{0, 0, 128}},
		{"a bit that is set", []byte{255}, 3, []byte{247}},
		{"the highest, set", []byte{128}, 7, []byte{0}},
	}
	for _, c := range cases {
		l := []api.Datagram{{Data: []byte("ahead"), Sent: 1}, {Data: c.data, Sent: 2}, {Data: []byte("behind"), Sent: 3}}
		got, e := net.Spoil(l, 1, c.bit)
		want := []api.Datagram{l[0], {Data: c.want, Sent: 2}, l[2]}
		if e != api.OK || !sameRow(got, want) {
			t.Errorf("%s: %v, %d", c.name, got, e)
		}
	}
}

// bitOf reads by P5.1's words a bit of some bytes.
func bitOf(data []byte, bit int) bool { return data[bit/8]>>(bit%8)&1 == 1 }

// Every bit of every datagram: that one is turned and no other is.
func TestSpoilEverywhere(t *testing.T) {
	for _, l := range rows() {
		for at := range l {
			for bit := range 8 * len(l[at].Data) {
				got, e := net.Spoil(l, at, bit)
				if e != api.OK || !sameRow(wantLeft(got, at), wantLeft(l, at)) || got[at].Sent != l[at].Sent {
					t.Fatalf("Spoil(%v, %d, %d) = %v, %d", l, at, bit, got, e)
				}
				if len(got[at].Data) != len(l[at].Data) {
					t.Fatalf("Spoil(%v, %d, %d) has %d bytes there", l, at, bit, len(got[at].Data))
				}
				for i := range 8 * len(l[at].Data) {
					if turned := bitOf(got[at].Data, i) != bitOf(l[at].Data, i); turned != (i == bit) {
						t.Fatalf("Spoil(%v, %d, %d): bit %d turned: %v", l, at, bit, i, turned)
					}
				}
			}
		}
	}
}

func TestSpoilTwice(t *testing.T) {
	for _, l := range rows() {
		for at := range l {
			for bit := range 8 * len(l[at].Data) {
				once, _ := net.Spoil(l, at, bit)
				twice, e := net.Spoil(once, at, bit)
				if sameRow(once, l) || e != api.OK || !sameRow(twice, l) {
					t.Fatalf("Spoil(%v, %d, %d) twice = %v, %d", l, at, bit, twice, e)
				}
			}
		}
	}
}

func TestSpoilWrong(t *testing.T) {
	for _, l := range rows() {
		for _, at := range placesAbout(len(l)) {
			place, bits := at >= 0 && at < len(l), 0
			if place {
				bits = 8 * len(l[at].Data)
			}
			for _, bit := range []int{math.MinInt, -9, -8, -7, -1, 0, 7, 8, bits - 1, bits, bits + 1, bits + 7, bits + 8, math.MaxInt} {
				want := api.OK
				switch {
				case !place: // named first, and so told with a wrong bit too
					want = 50
				case bit < 0 || bit >= bits:
					want = 2
				}
				got, e := net.Spoil(l, at, bit)
				if e != want || e != api.OK && len(got) != 0 {
					t.Fatalf("Spoil(%v, %d, %d) = %v, %d, want %d", l, at, bit, got, e, want)
				}
			}
		}
	}
}

// Spoil adds nothing, so that it is refused at no length.
func TestSpoilOfMany(t *testing.T) {
	for _, n := range []int{api.MaxFlight, api.MaxFlight + 1} {
		l := flight(n)
		want := deep(l)
		want[n-1].Data[2] ^= 128
		if got, e := net.Spoil(l, n-1, 23); e != api.OK || !sameRow(got, want) {
			t.Errorf("Spoil of %d = %d datagrams, %d", n, len(got), e)
		}
	}
}

// P5.2: Oldest

func TestOldest(t *testing.T) {
	at := func(times ...int) []api.Datagram {
		var l []api.Datagram
		for _, x := range times {
			l = append(l, api.Datagram{Data: []byte{1}, Sent: x})
		}
		return l
	}
	cases := []struct {
		name string
		l    []api.Datagram
		now  int
		want int
	}{
		{"none", nil, 9, 0},
		{"none, empty", []api.Datagram{}, 9, 0},
		{"none at the greatest now", nil, math.MaxInt, 0},
		{"none at the least now", nil, math.MinInt, 0},
		{"one", at(5), 9, 4},
		{"one sent now", at(9), 9, 0},
		{"one sent just behind now", at(10), 9, 0},
		{"one sent just ahead of now", at(8), 9, 1},
		{"one sent far behind now", at(math.MaxInt), math.MinInt, 0},
		{"the first", at(1, 2, 3), 9, 8},
		{"the last", at(3, 2, 1), 9, 8},
		{"one between", at(3, 1, 2), 9, 8},
		{"alike", at(4, 4, 4), 9, 5},
		{"some behind now", at(20, 4, 30), 9, 5},
		{"all behind now", at(20, 14, 30), 9, 0},
		{"below 0", at(-5, 3), 9, 14},
		{"both below 0", at(-5, -3), -2, 3},
		{"now below 0", at(3), -2, 0},
		{"MaxTime", at(0), api.MaxTime, api.MaxTime},
		{"the greatest that is an int", at(0), math.MaxInt, math.MaxInt},
		{"the greatest that is an int, by another way", at(math.MinInt), -1, math.MaxInt},
		{"one less", at(1), math.MaxInt, math.MaxInt - 1},
		{"one more", at(-1), math.MaxInt, math.MaxInt},
		{"one more, by another way", at(math.MinInt), 0, math.MaxInt},
		{"as far as can be", at(math.MinInt), math.MaxInt, math.MaxInt},
		{"far, and others", at(math.MaxInt, math.MinInt, 0), 2, math.MaxInt},
		{"the least now", at(math.MinInt), math.MinInt, 0},
	}
	for _, c := range cases {
		if got := net.Oldest(c.l, c.now); got != c.want {
			t.Errorf("%s: %d, want %d", c.name, got, c.want)
		}
	}
}

// Against the words, over every row of up to three small times.
func TestOldestEverywhere(t *testing.T) {
	for x := range 64 {
		for n := range 4 {
			var l []api.Datagram
			for i := range n {
				l = append(l, api.Datagram{Sent: x >> (2 * i) & 3})
			}
			for now := -1; now < 6; now++ {
				want := 0
				for _, d := range l {
					want = max(want, now-d.Sent)
				}
				if got := net.Oldest(l, now); got != want {
					t.Fatalf("Oldest(%v, %d) = %d, want %d", l, now, got, want)
				}
			}
		}
	}
}

// P5.2: Count

func TestCount(t *testing.T) {
	several := sent("a", "b", "a", "ab", "", "a\x00", "A", "a")
	cases := []struct {
		name string
		l    []api.Datagram
		data []byte
		want int
	}{
		{"none", nil, []byte("a"), 0},
		{"none, no bytes", nil, nil, 0},
		{"several have them", several, []byte("a"), 3},
		{"one has them", several, []byte("ab"), 1},
		{"none has them", several, []byte("c"), 0},
		{"none has more", several, []byte("abc"), 0},
		{"a nought behind", several, []byte("a\x00"), 1},
		{"no bytes, nil", several, nil, 1},
		{"no bytes, empty", several, []byte{}, 1},
		{"nil in the row, nil asked", []api.Datagram{{}, {Data: []byte{}}}, nil, 2},
		{"nil in the row, empty asked", []api.Datagram{{}, {Data: []byte{}}}, []byte{}, 2},
		{"nil in the row, a nought asked", []api.Datagram{{}, {Data: []byte{}}}, []byte{0}, 0},
		{"times do not count", []api.Datagram{{Data: []byte("a"), Sent: 1}, {Data: []byte("a"), Sent: 2}}, []byte("a"), 2},
	}
	for _, c := range cases {
		if got := net.Count(c.l, c.data); got != c.want {
			t.Errorf("%s: %d, want %d", c.name, got, c.want)
		}
	}
	if got := net.Count(make([]api.Datagram, 2*api.MaxFlight), nil); got != 2*api.MaxFlight {
		t.Errorf("Count of many = %d", got)
	}
}

// A turned bit makes others of the bytes, turned back they are the same ones.
func TestCountOfSpoilt(t *testing.T) {
	l := sent("a", "a", "b")
	once, _ := net.Spoil(l, 0, 0)
	twice, _ := net.Spoil(once, 0, 0)
	if a, b := net.Count(once, []byte("a")), net.Count(twice, []byte("a")); a != 1 || b != 2 {
		t.Errorf("Count of a = %d, then %d", a, b)
	}
}

// P5.3

func TestTakenFirstComesInOrder(t *testing.T) {
	for n := range 20 {
		var l, all []api.Datagram
		for i := range n {
			d := api.Datagram{Data: []byte{byte(i * 7)}, Sent: 100 - i}
			all = append(all, d)
			var e api.Errno
			if l, e = net.Send(l, d.Data, d.Sent); e != api.OK {
				t.Fatalf("Send = %d", e)
			}
		}
		for i, want := range all {
			var d api.Datagram
			var e api.Errno
			if d, l, e = net.Take(l, 0); e != api.OK || !same(d, want) {
				t.Fatalf("taken as number %d of %d: %v, %d", i, n, d, e)
			}
		}
		if _, _, e := net.Take(l, 0); e != api.ErrNet || len(l) != 0 {
			t.Fatalf("of %d are left %v", n, l)
		}
	}
}

// The doubled one stands last; taken, it is the first, and the row is as it was.
func TestDoubledAndTaken(t *testing.T) {
	for _, l := range rows() {
		for at := range l {
			twice, e := net.Double(l, at)
			if e != api.OK || net.Count(twice, l[at].Data) != net.Count(l, l[at].Data)+1 {
				t.Fatalf("Double(%v, %d) = %v, %d", l, at, twice, e)
			}
			d, left, e := net.Take(twice, len(l))
			if e != api.OK || !same(d, l[at]) || !sameRow(left, l) {
				t.Fatalf("the doubled one of %v at %d is %v, %v are left, %d", l, at, d, left, e)
			}
		}
	}
}

// script is a row of steps, made of a number alone; each answers a number below n.
type script struct{ state uint32 }

func (s *script) below(n int) int {
	s.state = s.state*1664525 + 1013904223
	return int(s.state>>8) % n
}

// tally is what was sent and doubled, less what was taken, by bytes.
func tally(l []api.Datagram) map[string]int {
	out := map[string]int{}
	for _, d := range l {
		out[string(d.Data)]++
	}
	return out
}

// Over many steps: of all bytes as many are in flight as were sent and doubled, less those taken.
func TestAllAddsUp(t *testing.T) {
	for seed := range 60 {
		s := &script{state: uint32(seed)}
		var l, model []api.Datagram
		n, flights := map[string]int{}, 0
		for step := range 200 {
			at := s.below(len(l)+3) - 1
			place := at >= 0 && at < len(l)
			switch s.below(3) {
			case 0:
				data := []byte{byte('a' + s.below(4))}
				l, _ = net.Send(l, data, step)
				model = append(model, api.Datagram{Data: data, Sent: step})
				n[string(data)]++
				flights++
			case 1:
				got, e := net.Double(l, at)
				if place != (e == api.OK) {
					t.Fatalf("Double of %d at %d = %d", len(l), at, e)
				}
				if place {
					n[string(l[at].Data)]++
					model = append(model, model[at])
					l = got
					flights++
				}
			case 2:
				d, left, e := net.Take(l, at)
				if place != (e == api.OK) {
					t.Fatalf("Take of %d at %d = %d", len(l), at, e)
				}
				if place {
					n[string(d.Data)]--
					model = wantLeft(model, at)
					l = left
					flights--
				}
			}
			if len(l) != flights || !sameRow(l, model) {
				t.Fatalf("script %d, step %d: %v are in flight, want %v", seed, step, l, model)
			}
			for text, count := range n {
				if got := net.Count(l, []byte(text)); got != count || tally(l)[text] != count {
					t.Fatalf("script %d, step %d: %d of %s, want %d", seed, step, got, text, count)
				}
			}
		}
	}
}

// Rules that hold everywhere

// withRoom answers a row and its datagrams' bytes with room behind their ends, and what is all there to be seen.
func withRoom(l []api.Datagram) (row []api.Datagram, seen func() []api.Datagram) {
	row = make([]api.Datagram, len(l), len(l)+3)
	for i, d := range l {
		data := append(bytes.Clone(d.Data), "room"...)
		row[i] = api.Datagram{Data: data[:len(d.Data)], Sent: d.Sent}
	}
	for i := len(l); i < cap(row); i++ {
		row[:cap(row)][i] = api.Datagram{Data: []byte("room"), Sent: -i}
	}
	return row, func() []api.Datagram {
		var out []api.Datagram
		for _, d := range row[:cap(row)] {
			out = append(out, api.Datagram{Data: bytes.Clone(d.Data[:cap(d.Data)]), Sent: d.Sent})
		}
		return out
	}
}

// calls does every call on a row that answers datagrams, and answers each answer as one row.
func calls(l []api.Datagram, data []byte) [][]api.Datagram {
	var out [][]api.Datagram
	add := func(l []api.Datagram, e api.Errno) {
		if e == api.OK {
			out = append(out, l)
		}
	}
	add(net.Send(l, data, 7))
	for _, at := range placesAbout(len(l)) {
		add(net.Double(l, at))
		for _, bit := range []int{-1, 0, 7, 8, math.MaxInt} {
			add(net.Spoil(l, at, bit))
		}
		d, left, e := net.Take(l, at)
		add(append(slices.Clone(left), d), e) // the same bytes, in another row
	}
	return out
}

// R3: what is handed in is not changed, nor what stands behind its end, nor when an answer is written over.
func TestInputsStay(t *testing.T) {
	for _, l := range rows() {
		row, seen := withRoom(l)
		text := []byte("data, and more")
		data := text[:4]
		before := seen()
		for _, got := range calls(row, data) {
			writeOver(got)
		}
		net.Oldest(row, 7)
		net.Count(row, data)
		if _, left, e := net.Take(row, 0); e == api.OK {
			writeOver(left)
		}
		if !sameRow(seen(), before) || string(text) != "data, and more" {
			t.Fatalf("%v became %v, data %q", before, seen(), text)
		}
	}
}

// writeOver writes over all that an answer holds, and behind its ends.
func writeOver(l []api.Datagram) {
	for i := range l {
		data := l[i].Data[:cap(l[i].Data)]
		for j := range data {
			data[j] ^= 255
		}
		_ = append(l[i].Data, 255)
	}
	_ = append(l, api.Datagram{Data: []byte("over"), Sent: -1})
	clear(l)
}

// R3: what is answered stays when what was handed in is written over.
func TestAnswersStay(t *testing.T) {
	for _, l := range rows() {
		row, _ := withRoom(l)
		data := []byte("data")
		got, want := calls(row, data), calls(deep(l), []byte("data"))
		writeOver(row)
		writeOver([]api.Datagram{{Data: data}})
		if !slices.EqualFunc(got, want, sameRow) {
			t.Fatalf("%v, want %v", got, want)
		}
	}
}

// R3: no two lists of one answer share memory, though those handed in do.
func TestAnswersShareNothing(t *testing.T) {
	one := []byte("shared")
	for n := 1; n < 5; n++ {
		l := make([]api.Datagram, n)
		for i := range l {
			l[i] = api.Datagram{Data: one, Sent: i}
		}
		for _, got := range calls(l, one) {
			for i := range got {
				if len(got[i].Data) == 0 {
					continue
				}
				before := deep(got)
				got[i].Data[0] ^= 255
				_ = append(got[i].Data, 255)
				if !sameRow(wantLeft(got, i), wantLeft(before, i)) {
					t.Fatalf("of %d, datagram %d shares its bytes: %v", len(got), i, got)
				}
			}
		}
		if string(one) != "shared" {
			t.Fatalf("what was handed in became %q", one)
		}
	}
}

// R4, R8: the same call on the same arguments answers the same.
func TestCallsKeepNothing(t *testing.T) {
	for _, l := range rows() {
		if a, b := calls(l, []byte("x")), calls(l, []byte("x")); !slices.EqualFunc(a, b, sameRow) {
			t.Fatalf("%v, then %v", a, b)
		}
	}
}

// R3: nil and empty lists are the same to every call.
func TestNilAndEmpty(t *testing.T) {
	for _, l := range [][]api.Datagram{nil, {}, make([]api.Datagram, 0, 9)} {
		for _, data := range [][]byte{nil, {}, make([]byte, 0, 9)} {
			got, e := net.Send(l, data, 3)
			if e != api.OK || len(got) != 1 || len(got[0].Data) != 0 || got[0].Sent != 3 {
				t.Errorf("Send(%v, %v, 3) = %v, %d", l, data, got, e)
			}
			if n := net.Count(got, nil) + net.Count(got, []byte{}); n != 2 {
				t.Errorf("%v has no bytes %d times", got, n)
			}
		}
		d, left, e := net.Take(l, 0)
		twice, e2 := net.Double(l, 0)
		spoilt, e3 := net.Spoil(l, 0, 0)
		if e != 50 || e2 != 50 || e3 != 50 || !isZero(d) || len(left)+len(twice)+len(spoilt) != 0 {
			t.Errorf("of none: %v %v %v %v, %d %d %d", d, left, twice, spoilt, e, e2, e3)
		}
		if net.Oldest(l, 9) != 0 || net.Count(l, nil) != 0 {
			t.Errorf("of none: Oldest %d, Count %d", net.Oldest(l, 9), net.Count(l, nil))
		}
	}
}
