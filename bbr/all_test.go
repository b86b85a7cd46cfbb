package bbr_test

import (
	"math"
	"math/big"
	"slices"
	"testing"

	"tideway/api"
	"tideway/bbr"
	"tideway/rate"
)

// dice throws numbers that look like chance and are the same each time.
type dice struct{ state uint64 }

// below answers a number from 0 on, below n.
func (d *dice) below(n int) int {
	d.state = d.state*6364136223846793005 + 1442695040888963407
	high := d.state >> 32
	d.state = d.state*6364136223846793005 + 1442695040888963407
	return int((high<<32|d.state>>32)>>1) % n
}

// upTo answers a number from 0 to n, of any length.
func (d *dice) upTo(n int) int { return d.below(n+1) >> d.below(big.NewInt(int64(n)).BitLen()+1) }

// near answers a number about n, or any, from low to high.
func (d *dice) near(n, low, high int) int {
	if d.below(3) == 0 {
		return low + d.upTo(high-low)
	}
	return min(max(n+d.below(5)-2, low), high)
}

// goes tells whether a number is from low to high.
func goes(n, low, high int) bool { return low <= n && n <= high }

// mayBe follows P18.1's words.
func mayBe(c api.Cc) bool {
	rates := true
	for i, x := range c.Bw {
		rates = rates && goes(x.At, 0, api.MaxTime) && x.At <= c.Round && goes(x.V, 0, api.MaxRate)
		for _, y := range c.Bw[:i] {
			rates = rates && y.At < x.At && y.V > x.V
		}
	}
	return rates && c.Kind == api.Bbr && goes(c.Mss, 1, api.MaxMss) && goes(c.Cwnd, c.Mss, api.MaxSize) &&
		c.Ssthresh == api.MaxSize && c.Acc == 0 && c.Wmax == 0 && c.Epoch == 0 && c.K == 0 && c.West == 0 && c.Start == 0 &&
		(c.Mode == api.Startup || c.Mode == api.Drain || c.Mode == api.ProbeBw || c.Mode == api.ProbeRtt) &&
		goes(c.MinRtt, 0, api.MaxTime) && goes(c.MinAt, 0, api.MaxTime) && goes(c.NextAt, 0, api.MaxTime) &&
		goes(c.PhaseAt, 0, api.MaxTime) && goes(c.DoneAt, 0, api.MaxTime) && goes(c.Round, 0, api.MaxTime) &&
		goes(c.Full, 0, api.MaxRate) && goes(c.FullN, 0, 3) && goes(c.Phase, 0, 7) && goes(c.Prior, 0, api.MaxSize)
}

// sampleMayBe follows P18.1's words.
func sampleMayBe(s api.Sample) bool {
	return goes(s.Now, 0, api.MaxTime) && goes(s.Given, 0, api.MaxTime) && goes(s.Before, 0, api.MaxTime) &&
		goes(s.Acked, 0, api.MaxSize) && goes(s.Flight, 0, api.MaxSize) && goes(s.Rtt, 0, api.MaxTime) && s.Rate >= 0
}

// wantBandwidth, wantProduct and wantGain follow P18.2's words, of what may be.
func wantBandwidth(c api.Cc) int {
	most := 0
	for _, x := range c.Bw {
		most = max(most, x.V)
	}
	return most
}

func wantProduct(c api.Cc) int {
	p := new(big.Int).Mul(big.NewInt(int64(wantBandwidth(c))), big.NewInt(int64(c.MinRtt)))
	p.Div(p, big.NewInt(1000000))
	if p.Cmp(big.NewInt(api.MaxSize)) > 0 {
		return api.MaxSize
	}
	return int(p.Int64())
}

func wantGain(c api.Cc) int {
	switch {
	case c.Mode == api.Startup:
		return 289
	case c.Mode == api.Drain:
		return 35
	case c.Mode == api.ProbeBw && c.Phase == 0:
		return 125
	case c.Mode == api.ProbeBw && c.Phase == 1:
		return 75
	}
	return 100
}

// wantRates follows step 2's words, for a rate that is put at a round.
func wantRates(l []api.Entry, round, v int) []api.Entry {
	for _, x := range l {
		if x.At == round {
			v = max(v, x.V)
		}
	}
	var out []api.Entry
	for _, x := range l {
		if x.At < round && x.At+10 >= round && x.V > v {
			out = append(out, x)
		}
	}
	return append(out, api.Entry{At: round, V: v})
}

// wantCycle follows the words of steps 5 and 6.
func wantCycle(c api.Cc, s api.Sample, old bool) api.Cc {
	if c.Mode == api.Drain {
		if s.Flight <= wantProduct(c) {
			c.Mode, c.Phase, c.PhaseAt = api.ProbeBw, 2, s.Now
		}
	} else if c.Mode == api.ProbeBw && s.Now-c.PhaseAt > c.MinRtt {
		c.PhaseAt = s.Now
		if c.Phase++; c.Phase == 8 {
			c.Phase = 0
		}
	}
	if old && c.Mode != api.ProbeRtt {
		c.Mode, c.Prior, c.DoneAt = api.ProbeRtt, c.Cwnd, 0
	} else if c.Mode == api.ProbeRtt {
		if c.DoneAt == 0 {
			if s.Flight <= 4*c.Mss {
				c.DoneAt = min(s.Now+200000, api.MaxTime)
			}
		} else if s.Now >= c.DoneAt {
			c.MinAt, c.DoneAt = s.Now, 0
			if c.Prior > c.Cwnd {
				c.Cwnd = c.Prior
			}
			if c.Mode = api.Startup; c.FullN == 3 {
				c.Mode, c.Phase, c.PhaseAt = api.ProbeBw, 2, s.Now
			}
		}
	}
	return c
}

// wantAcked follows P18.3's words, of what may be.
func wantAcked(c api.Cc, s api.Sample) api.Cc {
	s.Rate = min(s.Rate, api.MaxRate)
	fresh := s.Before >= c.NextAt
	if fresh {
		c.NextAt, c.Round = s.Given, min(c.Round+1, api.MaxTime)
	}
	if s.Rate > 0 && (!s.Idle || s.Rate >= wantBandwidth(c)) {
		c.Bw = wantRates(c.Bw, c.Round, s.Rate)
	}
	old := c.MinRtt > 0 && s.Now-c.MinAt > 10000000
	if s.Rtt > 0 && (c.MinRtt == 0 || s.Rtt <= c.MinRtt || old) {
		c.MinRtt, c.MinAt = s.Rtt, s.Now
	}
	if b := wantBandwidth(c); c.Mode == api.Startup && fresh && !s.Idle && b > 0 {
		if 100*b >= 125*c.Full {
			c.Full, c.FullN = b, 0
		} else if c.FullN >= 2 {
			c.FullN, c.Mode = 3, api.Drain
		} else {
			c.FullN++
		}
	}
	c = wantCycle(c, s, old)
	target := max(4*c.Mss, 2*wantProduct(c))
	if c.Mode == api.ProbeRtt {
		c.Cwnd = min(c.Cwnd, 4*c.Mss)
	} else if c.FullN == 3 {
		c.Cwnd = min(c.Cwnd+s.Acked, target)
	} else if c.Cwnd < target || wantBandwidth(c) == 0 {
		c.Cwnd += s.Acked
	}
	c.Cwnd = max(c.Mss, min(c.Cwnd, api.MaxSize))
	return c
}

// ask asks all calls of one controller against the words, and answers what Acked did.
func ask(t *testing.T, c api.Cc, s api.Sample, flight int) api.Cc {
	t.Helper()
	checked, bandwidth, product, gain := api.ErrState, 0, 0, 0
	want, wantE, cut, cutE := api.Cc{}, api.ErrState, api.Cc{}, api.ErrState
	if mayBe(c) {
		checked, bandwidth, product, gain = api.OK, wantBandwidth(c), wantProduct(c), wantGain(c)
		wantE, cutE = api.ErrArg, api.ErrArg
		if sampleMayBe(s) {
			want, wantE = wantAcked(c, s), api.OK
		}
		if goes(flight, 0, api.MaxSize) {
			cut, cutE = with(c, "Prior", c.Cwnd, "Cwnd", c.Mss), api.OK
		}
	}
	if got := bbr.Check(c); got != checked {
		t.Fatalf("Check(%+v) = %d, want %d", c, got, checked)
	}
	if b, p, g := bbr.Bandwidth(c), bbr.Product(c), bbr.Gain(c); b != bandwidth || p != product || g != gain {
		t.Fatalf("%+v: Bandwidth %d, Product %d, Gain %d, want %d, %d, %d", c, b, p, g, bandwidth, product, gain)
	}
	if got, e := bbr.Timeout(c, flight); e != cutE || !same(got, cut) {
		t.Fatalf("Timeout(%+v, %d) = %+v, %d, want %+v, %d", c, flight, got, e, cut, cutE)
	}
	got, e := bbr.Acked(c, s)
	if e != wantE || !same(got, want) {
		t.Fatalf("Acked(%+v, %+v) = %+v, %d, want %+v, %d", c, s, got, e, want, wantE)
	}
	if e == api.OK && !mayBe(got) {
		t.Fatalf("Acked(%+v, %+v) = %+v, which may not be", c, s, got)
	}
	return got
}

// thrownRates answers rates that may be, the last one at a round or below.
func thrownRates(d *dice, round int) []api.Entry {
	var l []api.Entry
	at, v := round-d.below(2)*d.below(4), d.upTo(api.MaxRate)
	for range d.below(6) {
		if at < 0 || v > api.MaxRate {
			break
		}
		l = append(l, api.Entry{At: at, V: v})
		at, v = at-1-d.below(5), v+1+d.upTo(1<<d.below(40))
	}
	slices.Reverse(l)
	return l
}

// thrown answers a controller of numbers of all lengths, that may be.
func thrown(d *dice) api.Cc {
	c := api.Cc{Kind: api.Bbr, Mss: 1 + d.upTo(api.MaxMss-1), Ssthresh: api.MaxSize, Mode: api.BbrMode(1 + d.below(4)), Round: d.upTo(api.MaxTime)}
	if d.below(10) == 0 {
		c.Round = api.MaxTime - d.below(3)
	}
	c.Bw = thrownRates(d, c.Round)
	c.MinRtt, c.MinAt, c.NextAt, c.PhaseAt = d.upTo(api.MaxTime), d.upTo(api.MaxTime), d.upTo(api.MaxTime), d.upTo(api.MaxTime)
	if d.below(2) == 0 {
		c.MinRtt = d.upTo(1000000)
	}
	c.Full = d.near(wantBandwidth(c)*4/5, 0, api.MaxRate)
	c.FullN, c.Phase, c.DoneAt, c.Prior = d.below(4), d.below(8), d.below(2)*d.upTo(api.MaxTime), d.upTo(api.MaxSize)
	c.Cwnd = d.near(max(4*c.Mss, 2*wantProduct(c)), c.Mss, api.MaxSize)
	return c
}

// thrownSample answers a Sample that may be, whose numbers are about those of a controller now and then.
func thrownSample(d *dice, c api.Cc) api.Sample {
	moments := []int{c.MinAt + 10000000, c.PhaseAt + c.MinRtt, c.DoneAt, c.MinAt, api.MaxTime - 200000, api.MaxTime}
	rates := []int{0, wantBandwidth(c), api.MaxRate}
	if n := len(c.Bw); n > 0 {
		rates = append(rates, c.Bw[n-1].V)
	}
	flights := []int{wantProduct(c), 4 * c.Mss, c.Cwnd}
	return api.Sample{
		Now:    d.near(moments[d.below(len(moments))], 0, api.MaxTime),
		Acked:  d.near(max(4*c.Mss, 2*wantProduct(c))-c.Cwnd, 0, api.MaxSize),
		Rtt:    d.below(3) / 2 * d.near(c.MinRtt, 0, api.MaxTime),
		Rate:   d.near(rates[d.below(len(rates))], 0, 2*api.MaxRate),
		Idle:   d.below(3) == 0,
		Given:  d.upTo(api.MaxTime),
		Before: d.near(c.NextAt, 0, api.MaxTime),
		Flight: d.near(flights[d.below(len(flights))], 0, api.MaxSize),
	}
}

func TestThrown(t *testing.T) {
	d := &dice{1}
	for range 300000 {
		c := thrown(d)
		ask(t, c, thrownSample(d, c), d.upTo(api.MaxSize))
	}
}

// One field, or several, of numbers about which a limit or the room of an int goes wrong.
func TestEverywhere(t *testing.T) {
	numbers := []int{
		math.MinInt, -1, 0, 1, 2, 3, 4, 7, 8, 48, 50, api.MaxMss, api.MaxMss + 1, api.MaxSize - 1, api.MaxSize, api.MaxSize + 1,
		api.MaxRate, api.MaxRate + 1, api.MaxTime - 1, api.MaxTime, api.MaxTime + 1, math.MaxInt,
	}
	d := &dice{2}
	pick := func() int { return numbers[d.below(len(numbers))] }
	fields, parts := spans(), limits()
	for range 100000 {
		c, s := usual(), sample()
		for range d.below(4) {
			c = with(c, fields[d.below(len(fields))].name, pick())
		}
		if d.below(4) == 0 {
			c.Bw = entries(pick(), pick())
		}
		ask(t, c, s, pick())
		for range d.below(4) {
			s = told(parts[d.below(len(parts))].name, pick())
		}
		s.Idle = d.below(2) == 0
		ask(t, c, s, pick())
	}
}

// All small numbers, so that each is the lesser, the same and the greater.
func TestSmallRounds(t *testing.T) {
	for mode := startup; mode <= probeRtt; mode++ {
		for old := range 3 {
			for v := range 4 {
				for next := range 3 {
					for full := range 5 {
						for fullN := range 4 {
							c := api.Cc{Kind: api.Bbr, Mss: 1, Cwnd: 5, Ssthresh: size, Mode: api.BbrMode(mode), Round: 10 + old, NextAt: next, Full: full, FullN: fullN}
							if v > 0 {
								c.Bw = entries(0, v+1, 11-old, v)
							}
							for before := range 3 {
								for rate := range 5 {
									s := api.Sample{Rate: rate, Before: before, Given: 9, Flight: 9, Acked: 2}
									ask(t, c, s, rate)
									s.Idle = true
									ask(t, c, s, rate)
								}
							}
						}
					}
				}
			}
		}
	}
}

func TestSmallWindows(t *testing.T) {
	for mode := startup; mode <= probeRtt; mode++ {
		for minRtt := range 6 {
			for cwnd := 1; cwnd < 14; cwnd++ {
				for fullN := range 4 {
					c := api.Cc{Kind: api.Bbr, Mss: 1, Cwnd: cwnd, Ssthresh: size, Mode: api.BbrMode(mode), MinRtt: minRtt, FullN: fullN, PhaseAt: 2, Prior: 7}
					for _, doneAt := range []int{0, 3, 4, 5} {
						c.DoneAt = doneAt
						for acked := range 4 {
							for flight := range 8 {
								s := api.Sample{Now: 4, Acked: acked, Flight: flight, Rtt: minRtt / 2}
								ask(t, c, s, flight)
								ask(t, row(c, 0, 1000000), s, flight)
							}
						}
					}
				}
			}
		}
	}
}

// P18.4

// What calls lead to may be, whatever their order, and goes as the words say; the bandwidth is a rate that was sampled.
func TestLongRows(t *testing.T) {
	d := &dice{3}
	for range 300 {
		c, e := bbr.New(1+d.upTo(api.MaxMss-1), 1+d.below(100))
		fine(t, "New", e)
		seen := map[int]bool{0: true}
		now, given := d.upTo(api.MaxTime), d.upTo(api.MaxTime)
		for range 300 {
			if d.below(20) == 0 {
				want := with(c, "Prior", c.Cwnd, "Cwnd", c.Mss)
				c, e = bbr.Timeout(c, d.upTo(api.MaxSize))
				is(t, "a long row", c, e, want)
			}
			now = min(now+d.upTo(3*second), api.MaxTime)
			given = min(given+d.upTo(api.MaxSize), api.MaxTime)
			s := thrownSample(d, c)
			if d.below(4) > 0 {
				s.Now, s.Given, s.Before = now, given, max(given-d.upTo(api.MaxSize), 0)
			}
			seen[min(s.Rate, api.MaxRate)] = true
			c = ask(t, c, s, d.upTo(api.MaxSize))
			if b := bbr.Bandwidth(c); !seen[b] {
				t.Fatalf("Bandwidth %d was not sampled", b)
			}
			for _, x := range c.Bw {
				if !seen[x.V] {
					t.Fatalf("%d was not sampled", x.V)
				}
			}
		}
	}
}

// path delivers a segment each gap, in order, and tells so a delay behind its sending at the least.
type path struct{ size, gap, delay int }

// flow is a sender that BBR drives over a path: as much is on its way as the window lets.
type flow struct {
	path
	c      api.Cc
	q      api.Rate
	way    []api.Rec
	told   []int // when each one on its way is told of
	end    int
	free   int // when the last one that was sent is through the bottleneck
	flight int // how much is on its way
}

// fill sends until the window is full.
func (f *flow) fill(t *testing.T, now int) {
	t.Helper()
	for f.flight+f.size <= f.c.Cwnd {
		x := api.Rec{From: f.end, To: f.end + f.size, Sent: now, Tx: 1}
		q, x, e := rate.Sent(f.q, x, now, len(f.way) == 0)
		fine(t, "Sent", e)
		f.free = max(f.free, now) + f.gap
		f.q, f.way, f.told = q, append(f.way, x), append(f.told, f.free-f.gap+f.delay)
		f.end, f.flight = x.To, f.flight+f.size
	}
}

// next has the first one on its way delivered, and answers when that was.
func (f *flow) next(t *testing.T) int {
	t.Helper()
	now := f.told[0]
	q, s, e := rate.Given(f.q, f.way[:1], now, f.c.MinRtt)
	fine(t, "Given", e)
	f.q, f.way, f.told, f.flight = q, f.way[1:], f.told[1:], f.flight-f.size
	s.Flight = f.flight
	if f.c, e = bbr.Acked(f.c, s); e != api.OK {
		t.Fatalf("Acked: %d", e)
	}
	return now
}

// begin answers a flow that has begun.
func begin(t *testing.T, p path) *flow {
	t.Helper()
	c, e := bbr.New(p.size, 10)
	fine(t, "New", e)
	f := &flow{path: p, c: c}
	f.fill(t, 0)
	return f
}

// step has one more delivered, sends what it lets go, and answers when that was. The path is never taken for a faster
// or a shorter one.
func (f *flow) step(t *testing.T) int {
	t.Helper()
	now := f.next(t)
	f.fill(t, now)
	if b := bbr.Bandwidth(f.c); b > f.rate() || f.c.MinRtt < f.delay {
		t.Fatalf("%+v: Bandwidth %d, MinRtt %d at %d", f.path, b, f.c.MinRtt, now)
	}
	return now
}

// rate answers the path's rate, and holds how much it holds.
func (p path) rate() int  { return p.size * second / p.gap }
func (p path) holds() int { return p.rate() * p.delay / second }

// isFound asks that the path is known as it is.
func (f *flow) isFound(t *testing.T, now int) {
	t.Helper()
	if b, p := bbr.Bandwidth(f.c), bbr.Product(f.c); b != f.rate() || p != f.holds() || f.c.MinRtt != f.delay {
		t.Fatalf("%+v: Bandwidth %d, Product %d, MinRtt %d at %d, want %d, %d", f.path, b, p, f.c.MinRtt, now, f.rate(), f.holds())
	}
}

// Once a path that delivers evenly counts as full, Product is what it holds.
func TestProductOfAnEvenPath(t *testing.T) {
	for _, p := range []path{{1000, 100, 20000}, {1460, 997, 40000}, {100, 10, 1000}, {65000, 1000, 300000}, {7, 3, 700}, {1000, 1000, 5000}} {
		f := begin(t, p)
		full := 0
		for now, n := 0, 0; now < 9*second && n < 50000; n++ {
			if now = f.step(t); f.c.FullN == 3 {
				f.isFound(t, now)
				full++
			}
		}
		if full == 0 {
			t.Errorf("%+v: not full, %+v", p, f.c)
		}
	}
}

// With a queue the round trip that stands for one that is old is too long: behind ProbeRtt it is the path's again. (The
// path is one with fewer than ten rounds in ProbeRtt's time, so that a rate from ahead of it still counts.)
func TestProbeRttFindsTheRoundTrip(t *testing.T) {
	for _, p := range []path{{1000, 100, 40000}, {1460, 997, 40000}, {65000, 1000, 300000}} {
		f := begin(t, p)
		probed, stretched := 0, false
		for now := 0; now < 45*second && probed < 3; {
			mode := f.c.Mode
			now = f.step(t)
			stretched = stretched || f.c.MinRtt > p.delay
			if mode == api.ProbeRtt && f.c.Mode != mode {
				probed++
				f.isFound(t, now)
			}
		}
		if probed < 3 || !stretched {
			t.Errorf("%+v: left ProbeRtt %d times, %+v", p, probed, f.c)
		}
	}
}

// R4: two controllers know nothing of one another, and the same call answers the same.
func TestTwoControllers(t *testing.T) {
	a, b := usual(), with(row(usual(), 49, 77), "Mode", startup, "FullN", 1)
	s := round("Rate", 950000, "Rtt", 90, "Acked", 10)
	first, e := bbr.Acked(a, s)
	fine(t, "Acked", e)
	other, e := bbr.Acked(b, s)
	fine(t, "Acked", e)
	_, e = bbr.Timeout(other, 50)
	fine(t, "Timeout", e)
	clear(other.Bw)
	again, e := bbr.Acked(a, s)
	is(t, "the same again", again, e, first)
	is(t, "the one", a, api.OK, usual())
	is(t, "the other", b, api.OK, with(row(usual(), 49, 77), "Mode", startup, "FullN", 1))
}
