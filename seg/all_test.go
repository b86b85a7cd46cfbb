package seg_test

import (
	"testing"

	"tideway/api"
	"tideway/seg"
)

// wantNext follows P9.2's words, one by one, for a want that may be.
func wantNext(w api.Want) (api.Cut, bool) {
	d := w.End - w.Next
	open := 0
	for w.Next+open < w.Edge {
		open++
	}
	end := api.Cut{From: w.Next, To: w.Next, Fin: true}
	if w.Fin {
		return api.Cut{}, false
	}
	if w.Force {
		if d != 0 {
			return api.Cut{From: w.Next, To: w.Next + 1, Psh: d == 1}, true
		}
		if w.Closed {
			return end, true
		}
		return api.Cut{}, false
	}
	if d == 0 {
		if w.Closed && open >= 1 {
			return end, true
		}
		return api.Cut{}, false
	}
	m := 0
	for m < d && m < w.Mss && m < open {
		m++
	}
	if m == 0 || w.Room < m {
		return api.Cut{}, false
	}
	full := m == w.Mss
	all := m == d && (w.Closed || !w.Nagle || w.Una == w.Next)
	half := 2*m >= w.Most && (!w.Nagle || w.Una == w.Next)
	if !full && !all && !half {
		return api.Cut{}, false
	}
	return api.Cut{From: w.Next, To: w.Next + m, Fin: w.Closed && m == d && open > m, Psh: m == d}, true
}

// each hands on all wants of small numbers that may be; the offsets begin at 0 and further up.
func each(f func(w api.Want)) {
	for bits := range 16 {
		w := api.Want{Closed: bits&1 > 0, Fin: bits&2 > 0, Nagle: bits&4 > 0, Force: bits&8 > 0}
		for _, w.Next = range []int{0, 2, 40} {
			for d := range 5 {
				w.End = w.Next + d
				if w.Fin && (!w.Closed || d > 0) {
					continue
				}
				eachSize(w, f)
			}
		}
	}
}

// eachSize goes through what a want's offsets and flags leave open.
func eachSize(w api.Want, f func(w api.Want)) {
	for _, w.Una = range []int{0, w.Next - 1, w.Next} {
		for open := -2; open < 7; open++ {
			w.Edge = w.Next + open
			if w.Una < 0 || w.Edge < 0 {
				continue
			}
			for w.Mss = 1; w.Mss < 6; w.Mss++ {
				for w.Room = -1; w.Room < 6; w.Room++ {
					for w.Most = range 9 {
						f(w)
					}
				}
			}
		}
	}
}

// P9.2, for all small wants; and that the same want is answered alike.
func TestNextByItsWords(t *testing.T) {
	n, cuts := 0, 0
	each(func(w api.Want) {
		c, ok, e := seg.Next(w)
		want, wantOk := wantNext(w)
		if e != api.OK || ok != wantOk || c != want {
			t.Fatalf("Next(%+v) = %+v, %t, %d, want %+v, %t", w, c, ok, e, want, wantOk)
		}
		if again, okAgain, _ := seg.Next(w); again != c || okAgain != ok {
			t.Fatalf("Next(%+v) = %+v, %t, then %+v, %t", w, c, ok, again, okAgain)
		}
		n++
		if ok {
			cuts++
		}
	})
	if cuts < 1000 || n-cuts < 1000 {
		t.Errorf("%d cuts of %d wants: too few to tell", cuts, n)
	}
}

// P9.3: without Force neither a byte nor the end's number is beyond the edge, and no more bytes go than Room; what goes
// is full, or all, or all that the window leaves.
func TestWhatFollows(t *testing.T) {
	each(func(w api.Want) {
		c, ok, _ := seg.Next(w)
		if !ok {
			return
		}
		size := c.To - c.From
		if c.From != w.Next || size < 0 || c.To > w.End || size > w.Mss || size == 0 && !c.Fin {
			t.Fatalf("Next(%+v) = %+v", w, c)
		}
		if c.Fin && (!w.Closed || c.To != w.End) {
			t.Fatalf("Next(%+v) = %+v: Fin, and it is not the end", w, c)
		}
		if w.Force {
			return
		}
		last := c.To
		if c.Fin {
			last++
		}
		if last > w.Edge || size > max(0, w.Room) {
			t.Fatalf("Next(%+v) = %+v goes too far", w, c)
		}
		if size != w.Mss && c.To != w.End && c.To != w.Edge {
			t.Fatalf("Next(%+v) = %+v: more could go", w, c)
		}
		if w.Nagle && size != w.Mss && !w.Closed && w.Una != w.Next {
			t.Fatalf("Next(%+v) = %+v: small, and something is on its way", w, c)
		}
	})
}

// P9.3: with windows wide open, cuts side by side send all that was written, and the end once.
func TestSideBySide(t *testing.T) {
	for _, w := range []api.Want{
		{Mss: 1, End: 9}, {Mss: 3, End: 9}, {Mss: 4, End: 9}, {Mss: 8, End: 9}, {Mss: 9, End: 9}, {Mss: 10, End: 9}, {Mss: 5},
		{Mss: 536, End: 100000, Most: api.MaxSize}, {Mss: api.MaxMss, End: 1 << 20, Most: 65535},
		{Mss: 1460, Una: api.MaxOffset - 50000, Next: api.MaxOffset - 50000, End: api.MaxOffset - 1},
	} {
		for _, w.Nagle = range []bool{false, true} {
			for _, w.Closed = range []bool{false, true} {
				w.Edge, w.Room = api.MaxOffset, api.MaxSize
				sendAll(t, w)
			}
		}
	}
}

// sendAll sends till nothing goes. Where a small rest waits for Nagle's rule, all is acknowledged.
func sendAll(t *testing.T, w api.Want) {
	t.Helper()
	first, ends, cuts := w, 0, 0
	for {
		c, ok := next(t, w)
		if !ok && w.Una < w.Next {
			if rest := w.End - w.Next; rest > 0 && (!w.Nagle || w.Closed || rest >= w.Mss) {
				t.Fatalf("%+v: %d bytes wait", w, rest)
			}
			w.Una = w.Next
			continue
		}
		if !ok {
			break
		}
		// A cut that moves nothing on would be answered again and again.
		if c.From != w.Next || c.To > w.End || c.To <= c.From && !c.Fin || w.Fin || c.Psh != (c.To == w.End && c.To > c.From) {
			t.Fatalf("Next(%+v) = %+v", w, c)
		}
		if c.Fin {
			ends++
		}
		w.Next, w.Fin = c.To, w.Fin || c.Fin
		cuts++
	}
	wantEnds := 0
	if w.Closed {
		wantEnds = 1
	}
	size := first.End - first.Next
	wantCuts := (size + w.Mss - 1) / w.Mss
	if size == 0 {
		wantCuts = wantEnds
	}
	if w.Next != w.End || ends != wantEnds || cuts != wantCuts {
		t.Errorf("%+v: up to %d in %d cuts (want %d), %d ends", first, w.Next, cuts, wantCuts, ends)
	}
}
