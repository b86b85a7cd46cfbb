package window_test

import (
	"testing"

	"tideway/api"
	"tideway/window"
)

// P21.4, and what else follows in rows of calls

// told is what a segment tells.
type told struct{ at, ack, size int }

// hear has a segment come, and asks that all went well.
func hear(t *testing.T, w api.Window, s told) api.Window {
	t.Helper()
	got, e := window.Told(w, s.at, s.ack, s.size)
	if e != api.OK || window.Check(got) != api.OK {
		t.Fatalf("Told(%+v, %+v) = %+v, %d", w, s, got, e)
	}
	return got
}

// rows answers rows of segments: some in order, some not, their sizes about one another or far apart.
func rows(seed uint64, count, length int) [][]told {
	d := &dice{seed}
	var all [][]told
	for range count {
		spread, most := 1+d.upTo(last/2), d.upTo(size)
		var row []told
		at, ack := d.upTo(last/2), d.upTo(last/2)
		for range length {
			row = append(row, told{d.near(at, last), d.near(ack, last), d.from(0, most)})
			if d.below(3) == 0 {
				at = min(at+d.upTo(spread), last)
			}
			if d.below(2) == 0 {
				ack = min(ack+d.upTo(spread), last)
			}
			if d.below(5) == 0 {
				row = append(row, row[d.below(len(row))])
			}
		}
		all = append(all, row)
	}
	return all
}

// Edge does not fall, and Right is at most Edge, which is the greatest that was told by a segment that counted.
func TestEdgeDoesNotFall(t *testing.T) {
	for i, row := range rows(21, 500, 60) {
		w, _ := window.New(i * 7)
		edge, una := i*7, 0
		for _, s := range row {
			before := w
			w = hear(t, w, s)
			una = max(una, s.ack)
			if !older(before, s.at, s.ack) {
				edge = max(edge, s.ack+s.size)
			}
			if w.Edge < before.Edge || w.Edge != edge || w.Una < before.Una || w.Una != una || w.Most < before.Most {
				t.Fatalf("Told(%+v, %+v) = %+v, Edge %d, Una %d", before, s, w, edge, una)
			}
			if right := window.Right(w); right > w.Edge || right < w.Wl2 {
				t.Fatalf("Right(%+v) = %d", w, right)
			}
		}
	}
}

// An older segment changes nothing but Una; any other is what the window is from there on.
func TestOlderSegments(t *testing.T) {
	ahead, behind := 0, 0
	for _, row := range rows(22, 500, 60) {
		w, _ := window.New(10)
		for _, s := range row {
			before := w
			w = hear(t, w, s)
			rest := w
			rest.Una = before.Una
			switch old := s.at < before.Wl1 || s.at == before.Wl1 && s.ack < before.Wl2; {
			case old && rest != before:
				t.Fatalf("an older one: Told(%+v, %+v) = %+v", before, s, w)
			case !old && (window.Right(w) != s.ack+s.size || w.Size != s.size || w.Wl1 != s.at || w.Wl2 != s.ack):
				t.Fatalf("Told(%+v, %+v) = %+v", before, s, w)
			case old:
				behind++
			default:
				ahead++
			}
		}
	}
	if ahead < 1000 || behind < 1000 {
		t.Errorf("%d were older, %d were not", behind, ahead)
	}
}

// In whatever order segments come, the latest one's window holds behind them, and all that they acknowledge.
func TestAnyOrder(t *testing.T) {
	d := &dice{23}
	for range 300 {
		row := []told{{d.below(9), d.below(9), d.below(100)}}
		for range 12 {
			s := row[len(row)-1]
			if d.below(3) == 0 {
				s.at++
			}
			row = append(row, told{s.at, s.ack + 1 + d.below(50), d.below(100)})
		}
		latest := row[len(row)-1]
		for range 10 {
			w, _ := window.New(0)
			for _, i := range shuffled(d, len(row)) {
				w = hear(t, w, row[i])
			}
			if w.Una != latest.ack || w.Size != latest.size || w.Wl1 != latest.at || w.Wl2 != latest.ack {
				t.Fatalf("%+v: %+v", row, w)
			}
		}
	}
}

// shuffled answers the numbers below n in an order that is thrown.
func shuffled(d *dice, n int) []int {
	l := make([]int, n)
	for i := range l {
		j := d.below(i + 1)
		l[i], l[j] = l[j], i
	}
	return l
}

// All orders of four segments, two of which stand at one offset and acknowledge alike: of these the one that comes later
// counts.
func TestAllOrders(t *testing.T) {
	row := []told{{3, 10, 5}, {4, 8, 7}, {4, 12, 9}, {4, 12, 2}}
	for n := range 4 * 4 * 4 * 4 {
		order := []int{n % 4, n / 4 % 4, n / 16 % 4, n / 64}
		if order[0] == order[1] || order[0] == order[2] || order[0] == order[3] || order[1] == order[2] || order[1] == order[3] || order[2] == order[3] {
			continue
		}
		w, _ := window.New(1)
		want := 0
		for _, i := range order {
			w = hear(t, w, row[i])
			if i >= 2 {
				want = row[i].size
			}
		}
		// The one that tells of the greatest edge is never older than what came ahead of it.
		is(t, "any order", w, api.OK, api.Window{Una: 12, Size: want, Edge: 21, Wl1: 4, Wl2: 12, Most: w.Most})
	}
}

// What is shut at an offset is shut beyond it, and open ahead of Right.
func TestShutBeyond(t *testing.T) {
	d := &dice{24}
	for _, row := range rows(25, 300, 30) {
		w, _ := window.New(d.upTo(size))
		for _, s := range row {
			w = hear(t, w, s)
			right := window.Right(w)
			next := []int{-1, 0, right - 2, right - 1, right, right + 1, right + d.upTo(last), w.Edge, w.Una, far, far + 1}
			for _, a := range next {
				for _, b := range next {
					if a <= b && window.Shut(w, a) && !window.Shut(w, b) {
						t.Fatalf("%+v is shut at %d and open at %d", w, a, b)
					}
				}
				if window.Shut(w, a) == (a < right) {
					t.Fatalf("Shut(%+v, %d)", w, a)
				}
			}
		}
	}
}

// A greater window opens what is shut, once there is room beyond next, and lets probes begin anew.
func TestOpens(t *testing.T) {
	d := &dice{26}
	for range 20000 {
		w := d.window()
		w.Wl1, w.Wl2 = min(w.Wl1, last-1), min(w.Wl2, last)
		right := window.Right(w)
		next := right + d.below(3)
		if !window.Shut(w, next) {
			t.Fatalf("Shut(%+v, %d)", w, next)
		}
		for more := 1; more <= 4 && w.Size+more <= size; more++ {
			x := hear(t, w, told{w.Wl1 + d.below(2), w.Wl2, w.Size + more})
			if window.Shut(x, next) != (right+more <= next) || x.Tries != 0 {
				t.Fatalf("%+v, %d more: %+v, next %d", w, more, x, next)
			}
		}
	}
}

// Waits double with each probe, within their bounds.
func TestWaitsDouble(t *testing.T) {
	for _, rto := range []int{1, 3, 1000, 200000, 1 << 40, longest/2 - 1, longest / 2, longest - 1, longest} {
		for _, low := range []int{0, 1, 200000, 1 << 45} {
			for _, high := range []int{1 << 45, 60000000, longest} {
				w, _ := window.New(0)
				time := rto
				for range 110 {
					want := max(min(time, high), low)
					if got := window.Wait(w, rto, low, high); got != want {
						t.Fatalf("rto %d, low %d, high %d, %d tries: %d, want %d", rto, low, high, w.Tries, got, want)
					}
					time = min(2*time, longest)
					var e api.Errno
					if w, e = window.Tried(w); e != api.OK {
						t.Fatal(e)
					}
				}
			}
		}
	}
}

// No probe makes the next wait shorter, and a window that opens makes it the first one again.
func TestWaitsBeginAnew(t *testing.T) {
	d := &dice{27}
	for range 2000 {
		w, _ := window.New(0)
		rto, low := 1+d.upTo(longest), d.upTo(1<<30)
		high := low + d.upTo(longest)
		first, wait := window.Wait(w, rto, low, high), 0
		for range 1 + d.below(120) {
			next := window.Wait(w, rto, low, high)
			if next < wait || next < low || next > high || wait > 0 && next > 2*wait {
				t.Fatalf("%+v: %d, then %d, from %d to %d", w, wait, next, low, high)
			}
			wait = next
			w, _ = window.Tried(w)
			if d.below(4) == 0 {
				w = hear(t, w, told{w.Wl1, w.Wl2, 0})
			}
		}
		if w.Tries == 0 {
			t.Fatalf("a window of 0 has probes begin anew: %+v", w)
		}
		w = hear(t, w, told{w.Wl1, w.Wl2, 1})
		if got := window.Wait(w, rto, low, high); w.Tries != 0 || got != first {
			t.Fatalf("%+v: %d, want %d", w, got, first)
		}
	}
}

// A peer that shuts, is probed, and opens.
func TestAShutPeer(t *testing.T) {
	w, e := window.New(10)
	is(t, "New", w, e, api.Window{Size: 10, Edge: 10, Most: 10})
	w = hear(t, w, told{0, 10, 0})
	if !window.Shut(w, 10) || window.Wait(w, 300, 200, 5000) != 300 {
		t.Errorf("shut: %+v", w)
	}
	for _, wait := range []int{600, 1200, 2400, 4800, 5000, 5000} {
		if w, e = window.Tried(w); e != api.OK {
			t.Fatal(e)
		}
		w = hear(t, w, told{0, 10, 0})
		if got := window.Wait(w, 300, 200, 5000); got != wait {
			t.Errorf("%+v: %d, want %d", w, got, wait)
		}
	}
	w = hear(t, w, told{0, 11, 0})
	is(t, "a probe is taken, and no room", w, api.OK, api.Window{Una: 11, Edge: 11, Wl2: 11, Most: 10, Tries: 6})
	w = hear(t, w, told{0, 11, 8})
	is(t, "room", w, api.OK, api.Window{Una: 11, Size: 8, Edge: 19, Wl2: 11, Most: 10})
	w = hear(t, w, told{0, 10, 0})
	is(t, "late", w, api.OK, api.Window{Una: 11, Size: 8, Edge: 19, Wl2: 11, Most: 10})
	if window.Shut(w, 11) || window.Shut(w, 18) || !window.Shut(w, 19) || window.Wait(w, 300, 200, 5000) != 300 {
		t.Errorf("open: %+v", w)
	}
}

// Rows of calls of all kinds, each with what the one ahead answered, the refused ones left out: a window that may be
// stays one.
func TestLongRows(t *testing.T) {
	d := &dice{28}
	for range 300 {
		w := d.window()
		for range 200 {
			at, ack, n := d.near(w.Wl1, far), d.near(w.Una, far), d.from(0, size+2)
			if d.below(4) == 0 {
				at, ack, n = d.from(0, far), d.from(0, far), d.near(w.Size, size)
			}
			askAll(t, w, at, ack, n)
			before := w
			var e api.Errno
			if d.below(3) == 0 {
				w, e = window.Tried(w)
			} else {
				w, e = window.Told(w, at, ack, n)
			}
			if e != api.OK {
				w = before
			}
			if !mayBe(w) || w.Edge < before.Edge || window.Right(w) > w.Edge {
				t.Fatalf("a row of calls led from %+v to %+v", before, w)
			}
		}
	}
}
