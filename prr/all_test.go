package prr_test

import (
	"math"
	"math/big"
	"testing"

	"tideway/api"
	"tideway/prr"
)

// dice throws numbers that look like chance and are the same each time.
type dice struct{ state uint64 }

// below answers a number from 0 on, below n.
func (d *dice) below(n int) int {
	d.state = d.state*6364136223846793005 + 1442695040888963407
	return int(d.state>>33) % n
}

// mayBe follows P14.1's words.
func mayBe(p api.Prr) bool {
	return 0 <= p.Given && p.Given <= api.MaxOffset && 0 <= p.Out && p.Out <= api.MaxOffset &&
		1 <= p.Flight && p.Flight <= api.MaxSize
}

// fits follows P14.2's words for Given's numbers.
func fits(n, pipe, ssthresh, mss int) bool {
	for _, x := range []int{n, pipe, ssthresh} {
		if x < 0 || x > api.MaxSize {
			return false
		}
	}
	return mss >= 1 && mss <= api.MaxMss
}

// ratio answers given times ssthresh by flight, upwards, in numbers that have room for all, at most the greatest int.
func ratio(given, ssthresh, flight int) int {
	x := new(big.Int).Mul(big.NewInt(int64(given)), big.NewInt(int64(ssthresh)))
	x, left := x.DivMod(x, big.NewInt(int64(flight)), new(big.Int))
	if left.Sign() != 0 {
		x.Add(x, big.NewInt(1))
	}
	if !x.IsInt64() {
		return math.MaxInt
	}
	return int(x.Int64())
}

// wanted follows P14.2's words for a state and numbers that may be.
func wanted(p api.Prr, n, pipe, ssthresh, mss int, safe bool) (api.Prr, int) {
	p.Given += n
	if p.Given > api.MaxOffset {
		p.Given = api.MaxOffset
	}
	number := 0
	if pipe > ssthresh {
		number = ratio(p.Given, ssthresh, p.Flight) - p.Out
	} else {
		greater := p.Given - p.Out
		if n > greater {
			greater = n
		}
		if safe {
			greater += mss
		}
		number = ssthresh - pipe
		if greater < number {
			number = greater
		}
	}
	if p.Out == 0 && number < mss {
		number = mss
	}
	if number < 0 {
		number = 0
	}
	return p, number
}

// askGiven asks one call of Given against the words.
func askGiven(t *testing.T, p api.Prr, n, pipe, ssthresh, mss int, safe bool) {
	t.Helper()
	want, wantN, wantE := api.Prr{}, 0, api.OK
	switch {
	case !mayBe(p):
		wantE = api.ErrState
	case !fits(n, pipe, ssthresh, mss):
		wantE = api.ErrArg
	default:
		want, wantN = wanted(p, n, pipe, ssthresh, mss, safe)
	}
	got, gotN, e := prr.Given(p, n, pipe, ssthresh, mss, safe)
	if got != want || gotN != wantN || e != wantE {
		t.Fatalf("Given(%+v, %d, %d, %d, %d, %v) = %+v, %d, %d, want %+v, %d, %d",
			p, n, pipe, ssthresh, mss, safe, got, gotN, e, want, wantN, wantE)
	}
	if e == api.OK && (!mayBe(got) || gotN < 0) {
		t.Fatalf("Given(%+v, %d, %d, %d, %d, %v) = %+v, %d, which may not be", p, n, pipe, ssthresh, mss, safe, got, gotN)
	}
}

// offsets and sizes are numbers about which a limit, a quotient or the room of an int goes wrong.
func offsets() []int {
	return []int{math.MinInt, -1, 0, 1, 2, 7, 1000, api.MaxSize, api.MaxOffset - api.MaxSize, api.MaxOffset - 1,
		api.MaxOffset, api.MaxOffset + 1, math.MaxInt}
}

func sizes() []int {
	return []int{math.MinInt, -1, 0, 1, 2, 3, 1000, 1 << 17, api.MaxSize - 1, api.MaxSize, api.MaxSize + 1, math.MaxInt}
}

func TestCheckEverywhere(t *testing.T) {
	for _, given := range offsets() {
		for _, out := range offsets() {
			for _, flight := range sizes() {
				p := api.Prr{Given: given, Out: out, Flight: flight}
				if e := prr.Check(p); e != api.OK && e != api.ErrState || (e == api.OK) != mayBe(p) {
					t.Fatalf("Check(%+v) = %d", p, e)
				}
			}
		}
	}
}

func TestGivenEverywhere(t *testing.T) {
	for _, given := range offsets() {
		for _, out := range offsets() {
			for _, flight := range sizes() {
				p := api.Prr{Given: given, Out: out, Flight: flight}
				for _, n := range []int{-1, 0, 1, 1000, api.MaxSize, api.MaxSize + 1} {
					for _, pipe := range []int{-1, 0, 1, 2, 4, api.MaxSize, api.MaxSize + 1} {
						for _, ssthresh := range sizes() {
							for _, mss := range []int{0, 1, 8, api.MaxMss, api.MaxMss + 1} {
								askGiven(t, p, n, pipe, ssthresh, mss, (n^pipe^mss)&1 == 0)
							}
						}
					}
				}
			}
		}
	}
}

// All small numbers, so that all that is left over by a quotient comes, and each is the lesser and the greater.
func TestSmallGiven(t *testing.T) {
	for given := range 9 {
		for out := range 9 {
			for flight := 1; flight <= 7; flight++ {
				p := api.Prr{Given: given, Out: out, Flight: flight}
				for n := range 7 {
					for pipe := range 9 {
						for ssthresh := range 9 {
							for mss := 1; mss <= 4; mss++ {
								askGiven(t, p, n, pipe, ssthresh, mss, false)
								askGiven(t, p, n, pipe, ssthresh, mss, true)
							}
						}
					}
				}
			}
		}
	}
}

// Numbers of all lengths, thrown.
func TestThrownGiven(t *testing.T) {
	d := &dice{1}
	long := func(most int) int { return d.below(1<<31) * (1 << 20) % (most + 1) >> d.below(30) }
	for range 200000 {
		p := api.Prr{Given: long(api.MaxOffset) + d.below(9), Out: long(api.MaxOffset) >> d.below(20), Flight: 1 + long(api.MaxSize)}
		askGiven(t, p, long(api.MaxSize)+d.below(3), long(api.MaxSize), long(api.MaxSize), 1+d.below(api.MaxMss), d.below(2) == 0)
	}
}

func TestSentEverywhere(t *testing.T) {
	for _, given := range offsets() {
		for _, out := range offsets() {
			for _, flight := range sizes() {
				for _, n := range sizes() {
					p := api.Prr{Given: given, Out: out, Flight: flight}
					want, wantE := api.Prr{}, api.OK
					switch {
					case !mayBe(p):
						wantE = api.ErrState
					case n < 0 || n > api.MaxSize:
						wantE = api.ErrArg
					default:
						want = p
						want.Out = min(out+n, api.MaxOffset)
					}
					if got, e := prr.Sent(p, n); got != want || e != wantE {
						t.Fatalf("Sent(%+v, %d) = %+v, %d, want %+v, %d", p, n, got, e, want, wantE)
					}
				}
			}
		}
	}
}

// P14.3

// walk is a row of calls in one recovery, with what went in and out counted beside them.
type walk struct {
	p          api.Prr
	given, out int
	first      int // the most that went at first
}

// step gives n and sends some of what may be sent, with pipe above ssthresh, and asks what must hold then.
func (w *walk) step(t *testing.T, d *dice, n, pipe, ssthresh, mss int, all bool) {
	t.Helper()
	p, may, e := prr.Given(w.p, n, pipe, ssthresh, mss, d.below(2) == 0)
	fine(t, "Given", e)
	w.given += n
	if w.out == 0 {
		w.first = mss
	}
	goes := min(may, api.MaxSize)
	if !all && goes > 0 {
		goes = d.below(goes + 1)
	}
	p, e = prr.Sent(p, goes)
	fine(t, "Sent", e)
	w.p, w.out = p, w.out+goes
	if want := (api.Prr{Given: w.given, Out: w.out, Flight: w.p.Flight}); w.p != want {
		t.Fatalf("%+v, want %+v", w.p, want)
	}
	if most := max(ratio(w.given, ssthresh, w.p.Flight), w.first); w.out > most {
		t.Fatalf("of %d given %d went out, ssthresh %d, Flight %d, mss %d: at most %d", w.given, w.out, ssthresh, w.p.Flight, mss, most)
	}
}

func TestWhatGoesOut(t *testing.T) {
	d := &dice{7}
	for range 3000 {
		flight := 1 + d.below(1<<(1+d.below(20)))
		ssthresh := d.below(flight + 1)
		mss := 1 + d.below(1<<(1+d.below(8)))
		p, e := prr.Begin(flight)
		fine(t, "Begin", e)
		w := walk{p: p}
		all := d.below(2) == 0
		for range 60 {
			w.step(t, d, d.below(1+flight/(1+d.below(40))), ssthresh+1+d.below(flight), ssthresh, mss, all)
		}
	}
}

// What may go does go where all of it is sent: no less than the ratio, either.
func TestAllOfItGoesOut(t *testing.T) {
	d := &dice{9}
	for _, c := range []struct{ flight, ssthresh, mss int }{{100, 50, 4}, {100, 70, 1}, {97, 31, 1}, {3, 2, 1}, {1, 1, 1}, {100000, 50000, 1000}} {
		p, e := prr.Begin(c.flight)
		fine(t, "Begin", e)
		w := walk{p: p}
		for w.given < c.flight {
			w.step(t, d, 1+d.below(max(c.flight/30, 1)), c.ssthresh+1, c.ssthresh, c.mss, true)
			if want := max(ratio(w.given, c.ssthresh, c.flight), c.mss); w.out != want {
				t.Fatalf("%+v: of %d given %d went out, want %d", c, w.given, w.out, want)
			}
		}
	}
}

// What goes at first is at most mss where nothing was given, and nothing more goes until more was given.
func TestFirstOnce(t *testing.T) {
	p, e := prr.Begin(100)
	fine(t, "Begin", e)
	for _, c := range []struct{ n, may int }{{0, 4}, {0, 0}, {2, 0}, {6, 0}, {1, 1}, {1, 0}, {2, 1}, {20, 10}, {0, 0}} {
		var may int
		p, may, e = prr.Given(p, c.n, 90, 50, 4, true)
		fine(t, "Given", e)
		if may != c.may {
			t.Fatalf("Given(%+v): %d, want %d", p, may, c.may)
		}
		p, e = prr.Sent(p, may)
		fine(t, "Sent", e)
	}
}

// Of what may go none went: it may still go, whatever was asked meanwhile.
func TestNothingSent(t *testing.T) {
	p, e := prr.Begin(100)
	fine(t, "Begin", e)
	for i := range 40 {
		var may int
		p, may, e = prr.Given(p, 1, 90, 50, 4, false)
		fine(t, "Given", e)
		if want := max(4, (i+2)/2); may != want {
			t.Fatalf("%d were given: %d, want %d", i+1, may, want)
		}
	}
}

// R3, R4: what is handed in stays as it was, two states know nothing of one another, and the same call answers the same.
func TestTwoStates(t *testing.T) {
	a, b := api.Prr{Given: 20, Out: 5, Flight: 100}, api.Prr{Given: 3, Out: 1, Flight: 7}
	first, may, e := prr.Given(a, 10, 90, 50, 4, false)
	fine(t, "Given", e)
	_, _, e = prr.Given(b, 4, 9, 5, 2, true)
	fine(t, "Given", e)
	_, e = prr.Sent(b, 4)
	fine(t, "Sent", e)
	second, again, e := prr.Given(a, 10, 90, 50, 4, false)
	is(t, "the same again", second, e, first)
	if may != again {
		t.Errorf("%d, then %d", may, again)
	}
	is(t, "the one", a, api.OK, api.Prr{Given: 20, Out: 5, Flight: 100})
	is(t, "the other", b, api.OK, api.Prr{Given: 3, Out: 1, Flight: 7})
}
