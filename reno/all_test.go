package reno_test

import (
	"math"
	"testing"

	"tideway/api"
	"tideway/reno"
)

// dice throws numbers that look like chance and are the same each time.
type dice struct{ state uint64 }

// below answers a number from 0 on, below n.
func (d *dice) below(n int) int {
	d.state = d.state*6364136223846793005 + 1442695040888963407
	return int(d.state>>33) % n
}

// upTo answers a number from 0 to n, of any length.
func (d *dice) upTo(n int) int { return d.below(n+1) >> d.below(31) }

// numbers follows P15.1's words for a controller whose other fields are zero.
func numbers(c api.Cc) bool {
	return c.Kind == api.Reno && 1 <= c.Mss && c.Mss <= api.MaxMss && c.Mss <= c.Cwnd && c.Cwnd <= api.MaxSize &&
		2*c.Mss <= c.Ssthresh && c.Ssthresh <= api.MaxSize && 0 <= c.Acc && c.Acc <= api.MaxSize
}

// wantedAck follows P15.2's words for Acked.
func wantedAck(c api.Cc, n int, idle bool) api.Cc {
	if idle {
		return c
	}
	if c.Cwnd < c.Ssthresh {
		if n < c.Mss {
			c.Cwnd = c.Cwnd + n
		} else {
			c.Cwnd = c.Cwnd + c.Mss
		}
	} else {
		c.Acc = c.Acc + n
		if was := c.Cwnd; c.Acc >= was {
			c.Acc = c.Acc - was
			c.Cwnd = was + c.Mss
		}
	}
	if c.Cwnd > api.MaxSize {
		c.Cwnd = api.MaxSize
	}
	if c.Acc > api.MaxSize {
		c.Acc = api.MaxSize
	}
	return c
}

// wantedLoss follows P15.2's words for Loss, and for Timeout.
func wantedLoss(c api.Cc, flight int, timeout bool) api.Cc {
	c.Ssthresh = (flight - flight%2) / 2
	if c.Ssthresh < 2*c.Mss {
		c.Ssthresh = 2 * c.Mss
	}
	c.Acc = 0
	if timeout {
		c.Cwnd = c.Mss
	}
	return c
}

// askOne asks one answer against what is wanted where nothing is refused.
func askOne(t *testing.T, name string, c api.Cc, n int, got api.Cc, e api.Errno, want api.Cc) {
	t.Helper()
	wantE := api.OK
	switch {
	case !numbers(c):
		want, wantE = api.Cc{}, api.ErrState
	case n < 0 || n > api.MaxSize:
		want, wantE = api.Cc{}, api.ErrArg
	}
	if e != wantE || !same(got, want) {
		t.Fatalf("%s of %+v, %d: %+v, %d, want %+v, %d", name, c, n, got, e, want, wantE)
	}
	if e == api.OK && !numbers(got) {
		t.Fatalf("%s of %+v, %d: %+v, which may not be", name, c, n, got)
	}
}

// askAll asks each call of one controller and one number against the words.
func askAll(t *testing.T, c api.Cc, n int) {
	t.Helper()
	if e := reno.Check(c); (e == api.OK) != numbers(c) || e != api.OK && e != api.ErrState {
		t.Fatalf("Check(%+v) = %d", c, e)
	}
	for _, idle := range []bool{false, true} {
		got, e := reno.Acked(c, n, idle)
		askOne(t, "Acked", c, n, got, e, wantedAck(c, n, idle))
	}
	got, e := reno.Loss(c, n)
	askOne(t, "Loss", c, n, got, e, wantedLoss(c, n, false))
	got, e = reno.Timeout(c, n)
	askOne(t, "Timeout", c, n, got, e, wantedLoss(c, n, true))
	want := c
	want.Cwnd = c.Ssthresh
	got, e = reno.Done(c)
	askOne(t, "Done", c, 0, got, e, want)
}

// edges are numbers about which a limit or the room of an int goes wrong.
func edges() []int {
	return []int{math.MinInt, -1, 0, 1, 2, 3, 10, 20, api.MaxMss, 2 * api.MaxMss, api.MaxSize - 1, api.MaxSize, api.MaxSize + 1, math.MaxInt}
}

func TestEverywhere(t *testing.T) {
	for _, mss := range []int{math.MinInt, -1, 0, 1, 10, api.MaxMss, api.MaxMss + 1, math.MaxInt} {
		for _, cwnd := range edges() {
			for _, ssthresh := range edges() {
				for _, acc := range edges() {
					for _, n := range []int{-1, 0, 1, 10, 40, api.MaxSize, api.MaxSize + 1} {
						askAll(t, cc(mss, cwnd, ssthresh, acc), n)
					}
				}
			}
		}
	}
}

// All small numbers, so that each is the lesser, the same and the greater.
func TestSmall(t *testing.T) {
	for mss := range 4 {
		for cwnd := range 12 {
			for ssthresh := range 12 {
				for acc := range 15 {
					for n := range 30 {
						askAll(t, cc(mss, cwnd, ssthresh, acc), n)
					}
				}
			}
		}
	}
}

// Numbers of all lengths, thrown.
func TestThrown(t *testing.T) {
	d := &dice{1}
	for range 200000 {
		mss := 1 + d.upTo(api.MaxMss-1)
		cwnd := mss + d.upTo(api.MaxSize-mss)
		ssthresh := 2*mss + d.upTo(api.MaxSize-2*mss)
		if d.below(4) == 0 {
			ssthresh = min(max(cwnd+d.below(3)-1, 2*mss), api.MaxSize)
		}
		c := cc(mss, cwnd, ssthresh, d.upTo(api.MaxSize))
		askAll(t, c, d.upTo(api.MaxSize))
		askAll(t, c, min(max(cwnd-c.Acc+d.below(3)-1, 0), api.MaxSize))
	}
}

func TestNewEverywhere(t *testing.T) {
	for mss := -2; mss <= api.MaxMss+2; mss++ {
		for _, first := range []int{-1, 0, 1, 2, 50, 100, 101} {
			got, e := reno.New(mss, first)
			if mss < 1 || mss > api.MaxMss || first < 1 || first > 100 {
				refused(t, "New", got, e, api.ErrArg)
			} else {
				is(t, "New", got, e, cc(mss, mss*first, api.MaxSize, 0))
			}
		}
	}
	for first := -300; first <= 300; first++ {
		if _, e := reno.New(10, first); (e == api.OK) != (1 <= first && first <= 100) {
			t.Errorf("New(10, %d): %d", first, e)
		}
	}
}

// What calls lead to may be, whatever their order, and goes as the words say.
func TestLongRows(t *testing.T) {
	d := &dice{3}
	for range 300 {
		c, e := reno.New(1+d.upTo(api.MaxMss-1), 1+d.below(100))
		fine(t, "New", e)
		for range 300 {
			n := d.upTo(api.MaxSize)
			want := c
			switch d.below(20) {
			case 0:
				want = wantedLoss(c, n, false)
				c, e = reno.Loss(c, n)
			case 1:
				want = wantedLoss(c, n, true)
				c, e = reno.Timeout(c, n)
			case 2:
				want.Cwnd = want.Ssthresh
				c, e = reno.Done(c)
			default:
				n >>= d.below(20)
				idle := d.below(5) == 0
				want = wantedAck(c, n, idle)
				c, e = reno.Acked(c, n, idle)
			}
			is(t, "a long row", c, e, want)
			if t.Failed() {
				return
			}
		}
	}
}

// P15.3

// place is where a row of acknowledgements has come to: the bytes of all of them, and the window.
type place struct{ bytes, cwnd int }

// row answers the places of a row of acknowledgements in congestion avoidance; pick says how many bytes the next one has.
func row(t *testing.T, c api.Cc, count int, pick func(c api.Cc) int) []place {
	t.Helper()
	places := []place{{0, c.Cwnd}}
	bytes := 0
	for range count {
		n := pick(c)
		was := c.Cwnd
		var e api.Errno
		if c, e = reno.Acked(c, n, false); e != api.OK || c.Cwnd < was {
			t.Fatalf("Acked %d: %+v, %d", n, c, e)
		}
		bytes += n
		places = append(places, place{bytes, c.Cwnd})
	}
	return places
}

// afterLoss answers a controller in congestion avoidance, as a recovery leaves it.
func afterLoss(t *testing.T, mss, segments int) api.Cc {
	t.Helper()
	c, e := reno.New(mss, 10)
	fine(t, "New", e)
	c, e = reno.Loss(c, 2*mss*segments)
	fine(t, "Loss", e)
	c, e = reno.Done(c)
	is(t, "Done", c, e, cc(mss, mss*segments, mss*segments, 0))
	return c
}

// way is a way in which acknowledgements come.
type way struct {
	name string
	pick func(c api.Cc) int
}

// ways are some, none of them of more bytes than the window.
func ways(d *dice) []way {
	return []way{
		{"a byte", func(api.Cc) int { return 1 }},
		{"a segment", func(c api.Cc) int { return c.Mss }},
		{"two segments", func(c api.Cc) int { return 2 * c.Mss }},
		{"a byte less", func(c api.Cc) int { return c.Mss - 1 }},
		{"half the window", func(c api.Cc) int { return c.Cwnd / 2 }},
		{"a third, upwards", func(c api.Cc) int { return c.Cwnd/3 + 1 }},
		{"one short of it", func(c api.Cc) int { return c.Cwnd - 1 }},
		{"the window", func(c api.Cc) int { return c.Cwnd }},
		{"up to two", func(c api.Cc) int { return d.below(2*c.Mss + 1) }},
		{"up to the window", func(c api.Cc) int { return d.below(c.Cwnd + 1) }},
		{"of any length", func(c api.Cc) int { return d.upTo(c.Cwnd) }},
		{"little and much", func(c api.Cc) int { return d.below(2) * (c.Cwnd - d.below(2)) }},
		{"nothing, then all", func(c api.Cc) int { return d.below(2) * c.Cwnd }},
	}
}

// From any place on: while no more bytes than the window are acknowledged, it rises by a segment at most.
func TestAtMostASegmentAWindow(t *testing.T) {
	d := &dice{5}
	for _, mss := range []int{1, 2, 10, 1460, api.MaxMss} {
		for _, segments := range []int{2, 3, 10, 100} {
			for _, w := range ways(d) {
				places := row(t, afterLoss(t, mss, segments), 400, w.pick)
				for i, from := range places {
					for _, to := range places[i+1:] {
						if to.bytes-from.bytes > from.cwnd {
							break
						}
						if to.cwnd-from.cwnd > mss {
							t.Fatalf("%s, mss %d: from %+v to %+v", w.name, mss, from, to)
						}
					}
				}
			}
		}
	}
}

// Each rise is paid for by a whole window, and no whole window is left that pays for none: no more, no less.
func TestEachRiseIsPaidFor(t *testing.T) {
	d := &dice{6}
	for _, mss := range []int{1, 2, 10, 1460, api.MaxMss} {
		for _, segments := range []int{2, 3, 10, 100} {
			for _, w := range ways(d) {
				places := row(t, afterLoss(t, mss, segments), 400, w.pick)
				cwnd, paid := places[0].cwnd, 0
				for _, p := range places {
					if p.bytes-paid >= cwnd {
						paid += cwnd
						cwnd += mss
					}
					if p.cwnd != cwnd {
						t.Fatalf("%s, mss %d: %+v, where %d bytes are paid, want %d", w.name, mss, p, paid, cwnd)
					}
				}
			}
		}
	}
}

// Acknowledgements of many windows at once let the window rise by a segment each, and by no more in all than was paid.
func TestManyWindowsAtOnce(t *testing.T) {
	d := &dice{8}
	for range 200 {
		mss := 1 + d.upTo(api.MaxMss-1)
		places := row(t, afterLoss(t, mss, 2+d.below(50)), 60, func(c api.Cc) int { return d.below(5*c.Cwnd) * d.below(2) })
		paid := 0
		for i, p := range places[1:] {
			switch rise := p.cwnd - places[i].cwnd; rise {
			case 0:
			case mss:
				paid += places[i].cwnd
			default:
				t.Fatalf("mss %d: from %+v to %+v", mss, places[i], p)
			}
			if paid > p.bytes {
				t.Fatalf("mss %d: at %+v %d were to be paid", mss, p, paid)
			}
		}
	}
}

// At its greatest the window stays, and what was counted stays within its limit.
func TestStaysAtMaxSize(t *testing.T) {
	c := cc(api.MaxMss, api.MaxSize-3, 2*api.MaxMss, 0)
	for range 10 {
		var e api.Errno
		if c, e = reno.Acked(c, api.MaxSize, false); e != api.OK || c.Cwnd != api.MaxSize {
			t.Fatalf("%+v, %d", c, e)
		}
	}
	fine(t, "Check", reno.Check(c))
}

// R3, R7: an empty list is like none, whatever room it has, and what is answered shares none of it.
func TestEmptyList(t *testing.T) {
	room := []api.Entry{{At: 1, V: 2}, {At: 3, V: 4}}
	with := cc(10, 30, 40, 5)
	with.Bw = room[:0]
	fine(t, "Check", reno.Check(with))
	acked, e := reno.Acked(with, 10, false)
	is(t, "Acked", acked, e, cc(10, 40, 40, 5))
	idle, e := reno.Acked(with, 10, true)
	is(t, "Acked, idle", idle, e, cc(10, 30, 40, 5))
	loss, e := reno.Loss(with, 100)
	is(t, "Loss", loss, e, cc(10, 30, 50, 0))
	timeout, e := reno.Timeout(with, 100)
	is(t, "Timeout", timeout, e, cc(10, 10, 50, 0))
	done, e := reno.Done(with)
	is(t, "Done", done, e, cc(10, 40, 40, 5))
	for _, c := range []api.Cc{acked, idle, loss, timeout, done} {
		_ = append(c.Bw, api.Entry{At: 9, V: 9})
	}
	if room[0] != (api.Entry{At: 1, V: 2}) || room[1] != (api.Entry{At: 3, V: 4}) {
		t.Errorf("%v was written into", room)
	}
	wrong := with
	wrong.Bw = room[:1]
	if got := reno.Check(wrong); got != api.ErrState {
		t.Errorf("Check of an entry: %d", got)
	}
	if room[0] != (api.Entry{At: 1, V: 2}) {
		t.Errorf("%v was written into", room)
	}
}

// R3, R4: what is handed in stays as it was, two controllers know nothing of one another, and the same call answers the same.
func TestTwoControllers(t *testing.T) {
	a, b := cc(10, 100, 50, 60), cc(7, 14, 700, 3)
	first, e := reno.Acked(a, 50, false)
	is(t, "Acked", first, e, cc(10, 110, 50, 10))
	_, e = reno.Acked(b, 50, false)
	fine(t, "Acked", e)
	_, e = reno.Loss(b, 50)
	fine(t, "Loss", e)
	_, e = reno.Timeout(b, 50)
	fine(t, "Timeout", e)
	_, e = reno.Done(b)
	fine(t, "Done", e)
	second, e := reno.Acked(a, 50, false)
	is(t, "the same again", second, e, first)
	is(t, "the one", a, api.OK, cc(10, 100, 50, 60))
	is(t, "the other", b, api.OK, cc(7, 14, 700, 3))
}
