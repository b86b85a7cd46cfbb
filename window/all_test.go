package window_test

import (
	"math"
	"math/big"
	"testing"

	"tideway/api"
	"tideway/window"
)

// dice throws numbers that look like chance and are the same each time.
type dice struct{ state uint64 }

// below answers a number from 0 on, below n.
func (d *dice) below(n int) int {
	d.state = d.state*6364136223846793005 + 1442695040888963407
	return int(d.state>>33) % n
}

// upTo answers a number of any length, from 0 to most.
func (d *dice) upTo(most int) int {
	return (d.below(1<<31)<<20 + d.below(1<<20)) % (most + 1) >> d.below(50)
}

// from answers a number of any length, from low to high.
func (d *dice) from(low, high int) int {
	if d.below(2) == 0 {
		return low + d.upTo(high-low)
	}
	return high - d.upTo(high-low)
}

// near answers a number that is close to n, but never below 0 nor above most.
func (d *dice) near(n, most int) int {
	return min(max(0, n+d.below(5)-2), most)
}

// window answers one that may be.
func (d *dice) window() api.Window {
	w := api.Window{Una: d.from(0, far), Wl1: d.from(0, far), Most: d.from(0, size), Tries: d.below(101)}
	w.Size = d.from(0, w.Most)
	w.Wl2 = d.from(0, far-w.Size)
	w.Edge = d.from(w.Wl2+w.Size, far)
	return w
}

// goes tells whether a number is from low to high.
func goes(n, low, high int) bool { return low <= n && n <= high }

// mayBe follows P21.1's words.
func mayBe(w api.Window) bool {
	for _, n := range []int{w.Una, w.Edge, w.Wl2, w.Wl1} {
		if !goes(n, 0, far) {
			return false
		}
	}
	if !goes(w.Size, 0, size) || !goes(w.Most, 0, size) || !goes(w.Tries, 0, 100) {
		return false
	}
	return !(w.Size > w.Most) && !(w.Wl2+w.Size > w.Edge)
}

// older tells whether a segment is not one that tells the window, by P21.2's words.
func older(w api.Window, at, ack int) bool {
	if at > w.Wl1 {
		return false
	}
	return at != w.Wl1 || ack < w.Wl2
}

// wantTold follows P21.2's words for a window and numbers that may be.
func wantTold(w api.Window, at, ack, n int) api.Window {
	x := w
	if ack > x.Una {
		x.Una = ack
	}
	if older(w, at, ack) {
		return x
	}
	x.Size, x.Wl1, x.Wl2 = n, at, ack
	if n > x.Most {
		x.Most = n
	}
	if ack+n > x.Edge {
		x.Edge = ack + n
	}
	if n > 0 {
		x.Tries = 0
	}
	return x
}

// wantWait follows P21.3's words in numbers that have room for all.
func wantWait(w api.Window, rto, low, high int) int {
	top := big.NewInt(longest)
	x := big.NewInt(int64(rto))
	if x.Cmp(top) > 0 {
		x.Set(top)
	}
	if x.Sign() > 0 {
		x.Lsh(x, uint(w.Tries))
	}
	if x.Cmp(top) > 0 {
		x.Set(top)
	}
	switch n := int(x.Int64()); {
	case n < low || low > high:
		return low
	case n > high:
		return high
	default:
		return n
	}
}

// ask asks what a call that answers a window answered.
func ask(t *testing.T, name string, w, got api.Window, e api.Errno, want api.Window, wantE api.Errno) {
	t.Helper()
	if got != want || e != wantE {
		t.Fatalf("%s of %+v: %+v, %d, want %+v, %d", name, w, got, e, want, wantE)
	}
	if e == api.OK && (!mayBe(got) || window.Check(got) != api.OK) {
		t.Fatalf("%s of %+v: %+v, which may not be", name, w, got)
	}
}

// askTold asks one call of Told against the words.
func askTold(t *testing.T, w api.Window, at, ack, n int) {
	t.Helper()
	want, wantE := api.Window{}, api.OK
	switch {
	case !mayBe(w):
		wantE = api.ErrState
	case !goes(at, 0, last) || !goes(ack, 0, last) || !goes(n, 0, size):
		wantE = api.ErrArg
	default:
		want = wantTold(w, at, ack, n)
	}
	got, e := window.Told(w, at, ack, n)
	if got != want || e != wantE {
		t.Fatalf("Told(%+v, %d, %d, %d) = %+v, %d, want %+v, %d", w, at, ack, n, got, e, want, wantE)
	}
	ask(t, "Told", w, got, e, want, wantE)
}

// askTried asks one call of Tried against the words.
func askTried(t *testing.T, w api.Window) {
	t.Helper()
	want, wantE := w, api.OK
	switch {
	case !mayBe(w):
		want, wantE = api.Window{}, api.ErrState
	case w.Tries < 100:
		want.Tries++
	}
	got, e := window.Tried(w)
	ask(t, "Tried", w, got, e, want, wantE)
}

// askRight asks one call of Right, and one of Shut, against the words.
func askRight(t *testing.T, w api.Window, next int) {
	t.Helper()
	want := 0
	if mayBe(w) {
		want = w.Wl2 + w.Size
	}
	if got := window.Right(w); got != want {
		t.Fatalf("Right(%+v) = %d, want %d", w, got, want)
	}
	shut := mayBe(w) && !(next < want)
	if got := window.Shut(w, next); got != shut {
		t.Fatalf("Shut(%+v, %d) = %v", w, next, got)
	}
}

// askWait asks one call of Wait against the words.
func askWait(t *testing.T, w api.Window, rto, low, high int) {
	t.Helper()
	want := 0
	if mayBe(w) {
		want = wantWait(w, rto, low, high)
	}
	if got := window.Wait(w, rto, low, high); got != want {
		t.Fatalf("Wait(%+v, %d, %d, %d) = %d, want %d", w, rto, low, high, got, want)
	}
}

// askAll asks all calls with three numbers, by turns.
func askAll(t *testing.T, w api.Window, a, b, c int) {
	t.Helper()
	askTold(t, w, a, b, c)
	askTold(t, w, a, b, min(c, size))
	askTried(t, w)
	askRight(t, w, a)
	askWait(t, w, a, b, c)
	askWait(t, w, b, c, a)
	askWait(t, w, c, a, b)
}

// few are numbers about all limits.
func few() []int {
	return []int{
		math.MinInt, math.MinInt/2 - 1, -1, 0, 1, 2, 59, 60, 61, 100, size - 1, size, size + 1, 1<<49 - 1, 1 << 49, 1<<49 + 1,
		last - 1, last, last + 1, far - 1, far, far + 1, math.MaxInt,
	}
}

func TestCheckEverywhere(t *testing.T) {
	offsets := []int{math.MinInt, -1, 0, 1, 7, last, far - 7, far, far + 1, math.MaxInt}
	sizes := []int{math.MinInt, -1, 0, 1, 7, size, size + 1, math.MaxInt}
	for _, una := range offsets {
		for _, edge := range offsets {
			for _, wl1 := range []int{-1, 0, far, far + 1} {
				for _, wl2 := range offsets {
					for _, n := range sizes {
						for _, most := range sizes {
							for _, tries := range []int{-1, 0, 100, 101} {
								w := api.Window{Una: una, Size: n, Edge: edge, Wl1: wl1, Wl2: wl2, Most: most, Tries: tries}
								if e := window.Check(w); e != api.OK && e != api.ErrState || (e == api.OK) != mayBe(w) {
									t.Fatalf("Check(%+v) = %d", w, e)
								}
							}
						}
					}
				}
			}
		}
	}
}

func TestStatesEverywhere(t *testing.T) {
	for _, c := range states() {
		if c.may != mayBe(c.w) {
			t.Fatalf("%s: %+v", c.name, c.w)
		}
		for i, a := range few() {
			for j, b := range few() {
				askAll(t, c.w, a, b, few()[(3*i+5*j)%len(few())])
			}
		}
	}
}

func TestNewEverywhere(t *testing.T) {
	for _, n := range few() {
		want, wantE := api.Window{Size: n, Edge: n, Most: n}, api.OK
		if !goes(n, 0, size) {
			want, wantE = api.Window{}, api.ErrArg
		}
		got, e := window.New(n)
		ask(t, "New", got, got, e, want, wantE)
	}
}

// All small windows and segments, so that each number is below, at and above each other one.
func TestSmall(t *testing.T) {
	for una := range 4 {
		for wl1 := range 3 {
			for wl2 := range 4 {
				for n := range 3 {
					for most := n; most < 4; most++ {
						for edge := wl2 + n; edge < 7; edge++ {
							w := api.Window{Una: una, Size: n, Edge: edge, Wl1: wl1, Wl2: wl2, Most: most}
							smallSegments(t, w)
							w.Tries = 2
							smallSegments(t, w)
						}
					}
				}
			}
		}
	}
}

// smallSegments has all small segments come to a window.
func smallSegments(t *testing.T, w api.Window) {
	t.Helper()
	askTried(t, w)
	for at := range 4 {
		for ack := range 6 {
			askRight(t, w, ack)
			for n := range 5 {
				askTold(t, w, at, ack, n)
			}
		}
	}
}

// All numbers of tries, and times about each power of two.
func TestWaitEverywhere(t *testing.T) {
	for tries := range 101 {
		w := usual()
		w.Tries = tries
		for bits := range 63 {
			for near := -1; near <= 1; near++ {
				rto := 1<<bits + near
				askWait(t, w, rto, math.MinInt, math.MaxInt)
				askWait(t, w, -rto, math.MinInt, math.MaxInt)
				want := wantWait(w, rto, math.MinInt, math.MaxInt)
				for low := -1; low <= 1; low++ {
					for high := -1; high <= 1; high++ {
						askWait(t, w, rto, want+low, want+high)
						askWait(t, w, -rto, want+low, want+high)
						askWait(t, w, -rto, low-rto, high-rto)
					}
				}
			}
		}
	}
}

// Numbers of all lengths, thrown.
func TestThrown(t *testing.T) {
	d := &dice{3}
	for range 100000 {
		w := d.window()
		askTold(t, w, d.from(0, last), d.from(0, last), d.from(0, size))
		ack := d.near(w.Wl2, last)
		askTold(t, w, d.near(w.Wl1, last), ack, d.near(w.Size, size))
		askTold(t, w, d.near(w.Wl1, last), ack, d.near(w.Edge-ack, size))
		askTold(t, w, d.near(w.Wl1, last), d.near(w.Una, last), d.near(w.Most, size))
		askTried(t, w)
		askRight(t, w, d.from(0, far))
		askRight(t, w, d.near(w.Wl2+w.Size, math.MaxInt))
		askWait(t, w, d.upTo(1<<60), d.upTo(1<<51), d.upTo(1<<51))
	}
}

// Windows that are thrown with no care, most of which may not be.
func TestThrownAway(t *testing.T) {
	d := &dice{4}
	thrown := func(most int) int { return d.from(-2, most+2) }
	for range 100000 {
		w := api.Window{Una: thrown(far), Size: thrown(size), Edge: thrown(far), Wl1: thrown(far), Wl2: thrown(far), Most: thrown(size), Tries: thrown(100)}
		if e := window.Check(w); (e == api.OK) != mayBe(w) {
			t.Fatalf("Check(%+v) = %d", w, e)
		}
		askAll(t, w, thrown(last), thrown(last), thrown(size))
	}
}

// R3, R4: what is handed in stays as it was, two windows know nothing of one another, and the same call answers the same.
func TestTheSameAgain(t *testing.T) {
	for _, c := range states() {
		first, firstE := window.Told(c.w, 30, 61, 5)
		tried, triedE := window.Tried(c.w)
		wait := window.Wait(c.w, 200, 100, 9000)
		other, _ := window.New(50)
		for n := range 5 {
			other, _ = window.Told(other, n, 3*n, 70-n)
			other, _ = window.Tried(other)
		}
		again, againE := window.Told(c.w, 30, 61, 5)
		retried, retriedE := window.Tried(c.w)
		if first != again || firstE != againE || tried != retried || triedE != retriedE || wait != window.Wait(c.w, 200, 100, 9000) {
			t.Errorf("%s: %+v, %d, %+v, %d, then %+v, %d, %+v, %d", c.name, first, firstE, tried, triedE, again, againE, retried, retriedE)
		}
	}
}
