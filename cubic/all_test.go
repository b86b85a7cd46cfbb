package cubic_test

import (
	"math"
	"math/big"
	"testing"

	"tideway/api"
	"tideway/cubic"
)

// dice throws numbers that look like chance and are the same each time.
type dice struct{ state uint64 }

// below answers a number from 0 on, below n.
func (d *dice) below(n int) int {
	d.state = d.state*6364136223846793005 + 1442695040888963407
	high := d.state >> 32
	d.state = d.state*6364136223846793005 + 1442695040888963407
	return int((high<<32|d.state>>32)>>1) % n
}

// upTo answers a number from 0 to n, of any length.
func (d *dice) upTo(n int) int { return d.below(n+1) >> d.below(big.NewInt(int64(n)).BitLen()+1) }

// whole answers n as a number without an end.
func whole(n int) *big.Int { return big.NewInt(int64(n)) }

// share answers a times b by c, downwards; b is not below 0.
func share(a *big.Int, b, c int) *big.Int {
	p := new(big.Int).Mul(a, whole(b))
	return p.Div(p, whole(c))
}

// between answers x, but low or high if it is beyond them.
func between(x *big.Int, low, high int) int {
	if x.Cmp(whole(low)) < 0 {
		return low
	}
	if x.Cmp(whole(high)) > 0 {
		return high
	}
	return int(x.Int64())
}

// numbers follows P16.1's words for a controller whose other fields are zero.
func numbers(c api.Cc) bool {
	return c.Kind == api.Cubic && 1 <= c.Mss && c.Mss <= api.MaxMss && c.Mss <= c.Cwnd && c.Cwnd <= api.MaxSize &&
		2*c.Mss <= c.Ssthresh && c.Ssthresh <= api.MaxSize && 0 <= c.Acc && c.Acc <= api.MaxSize &&
		0 <= c.Wmax && c.Wmax <= api.MaxSize && 0 <= c.West && c.West <= api.MaxSize && 0 <= c.Start && c.Start <= api.MaxSize &&
		0 <= c.K && c.K <= 2097151 && -1 <= c.Epoch && c.Epoch <= api.MaxTime
}

// wantedCurve follows P16.2's words.
func wantedCurve(c api.Cc, t int) int {
	if !numbers(c) {
		return 0
	}
	d := whole(between(new(big.Int).Sub(whole(t), whole(c.K)), -1000000, 1000000))
	below := d.Sign() < 0
	d.Abs(d)
	cube := new(big.Int).Mul(d, new(big.Int).Mul(d, d))
	v := share(cube, 4*c.Mss, 10000000000)
	if below {
		return between(v.Sub(whole(c.Wmax), v), 0, api.MaxSize)
	}
	return between(v.Add(whole(c.Wmax), v), 0, api.MaxSize)
}

// wantedRoot is the greatest number whose cube is at most n.
func wantedRoot(n *big.Int) int {
	low, high := 0, 1<<22
	for low+1 < high {
		middle := whole((low + high) / 2)
		if new(big.Int).Exp(middle, whole(3), nil).Cmp(n) <= 0 {
			low = (low + high) / 2
		} else {
			high = (low + high) / 2
		}
	}
	return low
}

// wantedAck follows P16.3's words.
func wantedAck(c api.Cc, n, now, srtt int, idle bool) api.Cc {
	if idle {
		c.Epoch = -1
		return c
	}
	if c.Cwnd < c.Ssthresh {
		c.Cwnd = min(c.Cwnd+min(n, c.Mss), api.MaxSize)
		return c
	}
	if c.Epoch == -1 {
		c.Epoch, c.Start, c.West = now, c.Cwnd, c.Cwnd
		if c.Cwnd < c.Wmax {
			c.K = wantedRoot(share(whole(c.Wmax-c.Cwnd), 10000000000, 4*c.Mss))
		} else {
			c.K, c.Wmax = 0, c.Cwnd
		}
	}
	since := 0
	if now > c.Epoch {
		since = now - c.Epoch
	}
	was := c.Cwnd
	w := wantedCurve(c, (since+srtt)/1000)
	w = between(whole(w), was, 3*was/2)
	rise := share(whole(w-was), n, was)
	west := share(whole(529*c.Mss), n, 1000*was)
	c.West = between(west.Add(west, whole(c.West)), 0, api.MaxSize)
	rise.Add(rise, whole(was))
	if rise.Cmp(whole(c.West)) < 0 {
		rise = whole(c.West)
	}
	c.Cwnd = between(rise, 0, api.MaxSize)
	return c
}

// wantedLoss follows P16.4's words for Loss, and for Timeout.
func wantedLoss(c api.Cc, timeout bool) api.Cc {
	if c.Cwnd >= c.Wmax {
		c.Wmax = c.Cwnd
	} else {
		c.Wmax = int(share(whole(c.Cwnd), 17, 20).Int64())
	}
	c.Ssthresh = int(share(whole(c.Cwnd), 7, 10).Int64())
	if c.Ssthresh < 2*c.Mss {
		c.Ssthresh = 2 * c.Mss
	}
	c.Epoch, c.Acc = -1, 0
	if timeout {
		c.Cwnd = c.Mss
	}
	return c
}

// askOne asks one answer against what is wanted where nothing is refused; wrong: one of its numbers may not be.
func askOne(t *testing.T, name string, c api.Cc, wrong bool, got api.Cc, e api.Errno, want func() api.Cc) {
	t.Helper()
	wantC, wantE := api.Cc{}, api.OK
	switch {
	case !numbers(c):
		wantE = api.ErrState
	case wrong:
		wantE = api.ErrArg
	default:
		wantC = want()
	}
	if e != wantE || !same(got, wantC) {
		t.Fatalf("%s of %+v: %+v, %d, want %+v, %d", name, c, got, e, wantC, wantE)
	}
	if e == api.OK && !numbers(got) {
		t.Fatalf("%s of %+v: %+v, which may not be", name, c, got)
	}
}

// askAcked asks Acked against the words, and that it does not lower the window.
func askAcked(t *testing.T, c api.Cc, n, now, srtt int) {
	t.Helper()
	wrong := n < 0 || n > api.MaxSize || now < 0 || now > api.MaxTime || srtt < 0 || srtt > api.MaxTime
	for _, idle := range []bool{false, true} {
		got, e := cubic.Acked(c, n, now, srtt, idle)
		askOne(t, "Acked", c, wrong, got, e, func() api.Cc { return wantedAck(c, n, now, srtt, idle) })
		if e == api.OK && got.Cwnd < c.Cwnd {
			t.Fatalf("Acked of %+v, %d, %d, %d: lowered to %d", c, n, now, srtt, got.Cwnd)
		}
	}
}

// askFalls asks Check, Loss, Timeout and Done against the words.
func askFalls(t *testing.T, c api.Cc, flight int) {
	t.Helper()
	if e := cubic.Check(c); (e == api.OK) != numbers(c) || e != api.OK && e != api.ErrState {
		t.Fatalf("Check(%+v) = %d", c, e)
	}
	wrong := flight < 0 || flight > api.MaxSize
	got, e := cubic.Loss(c, flight)
	askOne(t, "Loss", c, wrong, got, e, func() api.Cc { return wantedLoss(c, false) })
	got, e = cubic.Timeout(c, flight)
	askOne(t, "Timeout", c, wrong, got, e, func() api.Cc { return wantedLoss(c, true) })
	got, e = cubic.Done(c)
	askOne(t, "Done", c, false, got, e, func() api.Cc { return with(c, "Cwnd", c.Ssthresh) })
}

// askCurveAt asks Curve against the words.
func askCurveAt(t *testing.T, c api.Cc, at int) {
	t.Helper()
	if got, want := cubic.Curve(c, at), wantedCurve(c, at); got != want {
		t.Fatalf("Curve of %+v at %d: %d, want %d", c, at, got, want)
	}
}

// thrown answers a controller of numbers of all lengths, near one another now and then.
func thrown(d *dice) api.Cc {
	mss := 1 + d.upTo(api.MaxMss-1)
	cwnd := mss + d.upTo(api.MaxSize-mss)
	ssthresh := 2*mss + d.upTo(api.MaxSize-2*mss)
	if d.below(3) > 0 {
		ssthresh = min(max(cwnd+d.below(3)-1, 2*mss), api.MaxSize)
	}
	v := curve{d.upTo(api.MaxSize), d.upTo(api.MaxTime), d.upTo(mostK), d.upTo(api.MaxSize), d.upTo(api.MaxSize)}
	switch d.below(4) {
	case 0:
		v.wmax = min(max(cwnd+d.below(3)-1, 0), api.MaxSize)
	case 1:
		v.west = cwnd
	}
	if d.below(3) == 0 {
		v.epoch = -1
	}
	return cc(mss, cwnd, ssthresh, d.upTo(api.MaxSize), v)
}

// moment answers a time that is near the epoch and K now and then.
func moment(d *dice, c api.Cc) int {
	if d.below(2) == 0 {
		return d.upTo(api.MaxTime)
	}
	return min(max(c.Epoch+1000*c.K+d.upTo(10*second)-d.upTo(10*second), 0), api.MaxTime)
}

func TestThrown(t *testing.T) {
	d := &dice{1}
	for range 200000 {
		c := thrown(d)
		askAcked(t, c, d.upTo(api.MaxSize), moment(d, c), d.upTo(api.MaxTime))
		askAcked(t, c, min(c.Cwnd+d.below(3)-1, api.MaxSize), moment(d, c), d.upTo(3*second))
		askFalls(t, c, d.upTo(api.MaxSize))
		askCurveAt(t, c, d.upTo(2*mostK)-d.upTo(mostK))
		askCurveAt(t, c, c.K+d.below(5)-2+1000000*(d.below(3)-1))
	}
}

// One field, or several, of numbers about which a limit or the room of an int goes wrong.
func TestEverywhere(t *testing.T) {
	edges := []int{
		math.MinInt, -2, -1, 0, 1, 2, 20, api.MaxMss, api.MaxMss + 1, mostK, mostK + 1,
		api.MaxSize - 1, api.MaxSize, api.MaxSize + 1, api.MaxTime, api.MaxTime + 1, math.MaxInt,
	}
	fields := []string{"Kind", "Mss", "Cwnd", "Ssthresh", "Acc", "Wmax", "Epoch", "K", "West", "Start"}
	d := &dice{2}
	for range 40000 {
		c := usual()
		for range 1 + d.below(4) {
			c = with(c, fields[d.below(len(fields))], edges[d.below(len(edges))])
		}
		pick := func() int { return edges[d.below(len(edges))] }
		askAcked(t, c, pick(), pick(), pick())
		askAcked(t, c, 10, 5*second, second)
		askFalls(t, c, pick())
		askCurveAt(t, c, pick())
	}
	for _, n := range edges {
		for _, now := range edges {
			for _, srtt := range edges {
				for _, c := range anyWay() {
					askAcked(t, c, n, now, srtt)
				}
			}
		}
	}
}

// All small numbers, so that each is the lesser, the same and the greater.
func TestSmall(t *testing.T) {
	for mss := range 4 {
		for cwnd := range 12 {
			for wmax := range 14 {
				for west := range 14 {
					for _, epoch := range []int{-1, 0, 2} {
						c := cc(mss, cwnd, 6, 1, curve{wmax, epoch, 2, west, 3})
						askFalls(t, c, wmax)
						for _, n := range []int{0, 1, 2, 3, cwnd, 3 * cwnd, 20} {
							askAcked(t, c, n, 3, 2*second)
						}
					}
				}
			}
		}
	}
}

func TestNewEverywhere(t *testing.T) {
	for mss := -2; mss <= api.MaxMss+2; mss++ {
		for _, first := range []int{-1, 0, 1, 2, 50, 100, 101} {
			got, e := cubic.New(mss, first)
			if mss < 1 || mss > api.MaxMss || first < 1 || first > 100 {
				refused(t, "New", got, e, api.ErrArg)
			} else {
				is(t, "New", got, e, cc(mss, mss*first, api.MaxSize, 0, curve{epoch: -1}))
			}
		}
	}
	for first := -300; first <= 300; first++ {
		if _, e := cubic.New(10, first); (e == api.OK) != (1 <= first && first <= 100) {
			t.Errorf("New(10, %d): %d", first, e)
		}
	}
}

// What calls lead to may be, whatever their order, and goes as the words say.
func TestLongRows(t *testing.T) {
	d := &dice{3}
	for range 300 {
		c, e := cubic.New(1+d.upTo(api.MaxMss-1), 1+d.below(100))
		fine(t, "New", e)
		now := d.upTo(api.MaxTime / 2)
		for range 300 {
			want := c
			switch d.below(20) {
			case 0, 1:
				want = wantedLoss(c, false)
				c, e = cubic.Loss(c, d.upTo(api.MaxSize))
			case 2:
				want = wantedLoss(c, true)
				c, e = cubic.Timeout(c, d.upTo(api.MaxSize))
			case 3, 4, 5:
				want.Cwnd = want.Ssthresh
				c, e = cubic.Done(c)
			default:
				n, srtt, idle := d.upTo(min(2*c.Cwnd, api.MaxSize)), d.upTo(second), d.below(20) == 0
				now += d.upTo(second)
				want = wantedAck(c, n, now, srtt, idle)
				c, e = cubic.Acked(c, n, now, srtt, idle)
			}
			is(t, "a long row", c, e, want)
			if t.Failed() {
				return
			}
		}
	}
}

// P16.5

// The curve does not fall with time: about K millisecond by millisecond, and from far ahead of it to far behind.
func TestCurveDoesNotFall(t *testing.T) {
	for _, mss := range []int{1, 10, 1460, api.MaxMss} {
		for _, wmax := range []int{0, 1, 100, 1000000, api.MaxSize - 1, api.MaxSize} {
			for _, k := range []int{0, 1, 1957, 1000000, mostK} {
				c := onCurve(mss, wmax, k)
				if got := cubic.Curve(c, k); got != wmax {
					t.Fatalf("mss %d, K %d: %d at K, want %d", mss, k, got, wmax)
				}
				before := cubic.Curve(c, math.MinInt)
				rises := func(at int) {
					t.Helper()
					got := cubic.Curve(c, at)
					if got < before || at < k && got > wmax || at > k && got < wmax {
						t.Fatalf("mss %d, Wmax %d, K %d: %d at %d, %d ahead of it", mss, wmax, k, got, at, before)
					}
					before = got
				}
				for at := k - 1000100; at < k-2500; at += 997 {
					rises(at)
				}
				for at := k - 2500; at <= k+2500; at++ {
					rises(at)
				}
				for at := k + 2501; at < k+1000100; at += 997 {
					rises(at)
				}
				rises(math.MaxInt)
			}
		}
	}
}

// An epoch's K is where the curve comes back to Wmax, and the curve begins at the window, or a little above.
func TestEpochFitsTheWindow(t *testing.T) {
	d := &dice{4}
	for range 20000 {
		c := with(thrown(d), "Epoch", -1)
		c.Ssthresh = max(2*c.Mss, min(c.Ssthresh, c.Cwnd))
		if c.Cwnd < c.Ssthresh {
			continue
		}
		got, e := cubic.Acked(c, 0, 5, 0, false)
		fine(t, "Acked", e)
		if at := cubic.Curve(got, got.K); at != max(c.Wmax, c.Cwnd) {
			t.Fatalf("%+v: %d at K", got, at)
		}
		// K is cut down to a millisecond: the window is where the curve was less than one ahead of the beginning.
		begins, ahead := cubic.Curve(got, 0), cubic.Curve(got, -1)
		if begins < c.Cwnd || got.K < 1000000 && ahead > c.Cwnd {
			t.Fatalf("%+v: %d at 0, %d ahead of it", got, begins, ahead)
		}
	}
}

// No acknowledgement lowers the window, whatever their sizes and times, with time that goes back, too.
func TestAckedDoesNotLower(t *testing.T) {
	d := &dice{5}
	for _, mss := range []int{1, 2, 10, 1460, api.MaxMss} {
		for range 200 {
			c := thrown(d)
			c.Mss, c.Cwnd, c.Ssthresh = mss, max(c.Cwnd, mss), max(c.Ssthresh, 2*mss)
			for range 100 {
				was := c
				n, now, srtt := d.upTo(api.MaxSize), moment(d, c), d.upTo(10*second)
				var e api.Errno
				if c, e = cubic.Acked(c, n, now, srtt, d.below(10) == 0); e != api.OK || c.Cwnd < was.Cwnd || c.West < min(was.West, was.Cwnd) {
					t.Fatalf("Acked of %+v, %d, %d, %d: %+v, %d", was, n, now, srtt, c, e)
				}
			}
		}
	}
}

// R3, R7: an empty list is like none, whatever room it has, and what is answered shares none of it.
func TestEmptyList(t *testing.T) {
	room := []api.Entry{{At: 1, V: 2}, {At: 3, V: 4}}
	for _, c := range anyWay() {
		listed := c
		listed.Bw = room[:0]
		fine(t, "Check", cubic.Check(listed))
		if cubic.Curve(listed, 4000) != cubic.Curve(c, 4000) {
			t.Errorf("Curve of %+v", listed)
		}
		acked, e := cubic.Acked(listed, 10, 5*second, second, false)
		is(t, "Acked", acked, e, wantedAck(c, 10, 5*second, second, false))
		idle, e := cubic.Acked(listed, 10, 5*second, second, true)
		is(t, "Acked, idle", idle, e, wantedAck(c, 10, 5*second, second, true))
		loss, e := cubic.Loss(listed, 100)
		is(t, "Loss", loss, e, wantedLoss(c, false))
		timeout, e := cubic.Timeout(listed, 100)
		is(t, "Timeout", timeout, e, wantedLoss(c, true))
		done, e := cubic.Done(listed)
		is(t, "Done", done, e, with(c, "Cwnd", c.Ssthresh))
		for _, got := range []api.Cc{acked, idle, loss, timeout, done} {
			_ = append(got.Bw, api.Entry{At: 9, V: 9})
		}
	}
	if room[0] != (api.Entry{At: 1, V: 2}) || room[1] != (api.Entry{At: 3, V: 4}) {
		t.Errorf("%v was written into", room)
	}
}

// R3, R4: what is handed in stays as it was, two controllers know nothing of one another, and the same call answers the same.
func TestTwoControllers(t *testing.T) {
	a, b := usual(), cc(7, 140, 70, 3, curve{200, -1, 9, 8, 7})
	first, e := cubic.Acked(a, 50, 5*second, second, false)
	fine(t, "Acked", e)
	_, e = cubic.Acked(b, 50, 9*second, second, false)
	fine(t, "Acked", e)
	_, e = cubic.Loss(b, 50)
	fine(t, "Loss", e)
	_, e = cubic.Timeout(b, 50)
	fine(t, "Timeout", e)
	_, e = cubic.Done(b)
	fine(t, "Done", e)
	cubic.Curve(b, 50)
	again, e := cubic.Acked(a, 50, 5*second, second, false)
	is(t, "the same again", again, e, first)
	is(t, "the one", a, api.OK, usual())
	is(t, "the other", b, api.OK, cc(7, 140, 70, 3, curve{200, -1, 9, 8, 7}))
}
