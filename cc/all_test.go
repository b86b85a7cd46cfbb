package cc_test

import (
	"math"
	"math/big"
	"slices"
	"testing"

	"tideway/api"
	"tideway/bbr"
	"tideway/cc"
)

// dice throws numbers that look like chance and are the same each time.
type dice struct{ state uint64 }

// below answers a number from 0 on, below n.
func (d *dice) below(n int) int {
	d.state = d.state*6364136223846793005 + 1442695040888963407
	high := d.state >> 32
	d.state = d.state*6364136223846793005 + 1442695040888963407
	return int((high<<32|d.state>>32)>>1) % n
}

// upTo answers a number from 0 to n, of any length.
func (d *dice) upTo(n int) int { return d.below(n+1) >> d.below(big.NewInt(int64(n)).BitLen()+1) }

// near answers a number about n, or any, from low to high.
func (d *dice) near(n, low, high int) int {
	if d.below(3) == 0 {
		return low + d.upTo(high-low)
	}
	return min(max(n+d.below(5)-2, low), high)
}

// goes tells whether a number is from low to high.
func goes(n, low, high int) bool { return low <= n && n <= high }

// wantRest follows P19.2's words, where nothing is refused.
func wantRest(c api.Cc, idle, rto, used int) api.Cc {
	if idle <= rto || rto == 0 || isBbr(c) {
		return c
	}
	was := c.Cwnd
	if quarters := (3*was - 3*was%4) / 4; quarters > c.Ssthresh {
		c.Ssthresh = quarters
	}
	for halved := 0; halved < 20 && idle >= rto; halved++ {
		idle -= rto
		c.Cwnd = (c.Cwnd - c.Cwnd%2) / 2
	}
	if c.Cwnd < used {
		c.Cwnd = used
	}
	if c.Cwnd < 2*c.Mss {
		c.Cwnd = 2 * c.Mss
	}
	if c.Cwnd > was {
		c.Cwnd = was
	}
	return c
}

// wantPace follows P19.3's words, of what may be.
func wantPace(c api.Cc, srtt, floor int) int {
	p := new(big.Int)
	if isBbr(c) {
		p.Mul(big.NewInt(int64(bbr.Gain(c))), big.NewInt(int64(bbr.Bandwidth(c))))
		p.Div(p, big.NewInt(100))
	}
	if p.Sign() == 0 {
		g := 120
		if isBbr(c) {
			g = 289
		} else if c.Ssthresh > c.Cwnd {
			g = 200
		}
		if srtt < 1 {
			srtt = 1000
		} else if srtt > api.MaxTime {
			srtt = api.MaxTime
		}
		p.Mul(big.NewInt(int64(c.Cwnd)), big.NewInt(int64(1000000*g)))
		p.Div(p, big.NewInt(int64(100*srtt)))
	}
	for _, least := range []int{floor, 1} {
		if x := big.NewInt(int64(least)); p.Cmp(x) < 0 {
			p = x
		}
	}
	if p.Cmp(big.NewInt(api.MaxRate)) > 0 {
		return api.MaxRate
	}
	return int(p.Int64())
}

// askOwn asks the calls that this layer has of its own, of one controller, against the words. As to whether a controller
// may be, Check's word is taken.
func askOwn(t *testing.T, c api.Cc, idle, rto, used, cwnd, srtt, floor int) {
	t.Helper()
	rest, restE, limit, limitE, pace := api.Cc{}, api.ErrState, api.Cc{}, api.ErrState, 0
	if cc.Check(c) == api.OK {
		restE, limitE, pace = api.ErrArg, api.ErrArg, wantPace(c, srtt, floor)
		if goes(idle, 0, api.MaxTime) && goes(rto, 0, api.MaxTime) && goes(used, 0, api.MaxSize) {
			rest, restE = wantRest(c, idle, rto, used), api.OK
		}
		if goes(cwnd, 0, api.MaxSize) {
			limit, limitE = with(c, "Cwnd", max(cwnd, c.Mss)), api.OK
		}
	}
	got, e := cc.Rest(c, idle, rto, used)
	if e != restE || !same(got, rest) {
		t.Fatalf("Rest(%+v, %d, %d, %d) = %+v, %d, want %+v, %d", c, idle, rto, used, got, e, rest, restE)
	}
	if e == api.OK && (got.Cwnd > c.Cwnd || got.Cwnd < got.Mss || cc.Check(got) != api.OK) {
		t.Fatalf("Rest(%+v, %d, %d, %d) = %+v", c, idle, rto, used, got)
	}
	got, e = cc.Limit(c, cwnd)
	if e != limitE || !same(got, limit) {
		t.Fatalf("Limit(%+v, %d) = %+v, %d, want %+v, %d", c, cwnd, got, e, limit, limitE)
	}
	if e == api.OK && (got.Cwnd < got.Mss || cc.Check(got) != api.OK) {
		t.Fatalf("Limit(%+v, %d) = %+v", c, cwnd, got)
	}
	if got := cc.Pace(c, srtt, floor); got != pace {
		t.Fatalf("Pace(%+v, %d, %d) = %d, want %d", c, srtt, floor, got, pace)
	}
}

// thrown answers a controller of numbers of all lengths, that may be.
func thrown(d *dice) api.Cc {
	mss := 1 + d.upTo(api.MaxMss-1)
	c := usuals()[d.below(3)]
	c.Mss, c.Cwnd = mss, mss+d.upTo(api.MaxSize-mss)
	switch c.Kind {
	case api.Cubic:
		c.Wmax, c.Epoch, c.K = d.upTo(api.MaxSize), d.upTo(api.MaxTime+1)-1, d.upTo(mostK)
		c.West, c.Start = d.upTo(api.MaxSize), d.upTo(api.MaxSize)
		fallthrough
	case api.Reno:
		c.Ssthresh = d.near([]int{c.Cwnd, c.Cwnd * 3 / 4}[d.below(2)], 2*mss, api.MaxSize)
		c.Acc = d.upTo(api.MaxSize)
	case api.Bbr:
		c.Mode, c.Phase, c.FullN = api.BbrMode(1+d.below(4)), d.below(8), d.below(4)
		c.Bw, c.MinRtt, c.Full = nil, d.upTo(api.MaxTime), d.upTo(api.MaxRate)
		for v := d.upTo(api.MaxRate); v > 0 && len(c.Bw) < 4; v = v * 3 / 4 {
			c.Bw = append(c.Bw, api.Entry{At: 40 + 2*len(c.Bw), V: v})
		}
	}
	return c
}

func TestThrown(t *testing.T) {
	d := &dice{1}
	for range 300000 {
		c := thrown(d)
		rto := d.upTo(api.MaxTime)
		idle := d.near(min(rto*d.below(24), api.MaxTime), 0, api.MaxTime)
		used := d.near([]int{2 * c.Mss, c.Cwnd, c.Cwnd / 2, c.Cwnd / 4}[d.below(4)], 0, api.MaxSize)
		srtt := d.near(d.upTo(api.MaxTime), -2, 2*api.MaxTime)
		floor := d.near(wantPace(c, srtt, 0), -2, 2*api.MaxRate)
		askOwn(t, c, idle, rto, used, d.near(c.Mss, 0, api.MaxSize), srtt, floor)
	}
}

// One field, or several, of numbers about which a limit or the room of an int goes wrong.
func TestEverywhere(t *testing.T) {
	numbers := []int{
		math.MinInt, math.MinInt + 1, -1, 0, 1, 2, 3, 10, 19, 20, 21, 40, 80, 1000, api.MaxMss, api.MaxMss + 1, api.MaxSize - 1, api.MaxSize,
		api.MaxSize + 1, api.MaxRate, api.MaxRate + 1, api.MaxTime - 1, api.MaxTime, api.MaxTime + 1, math.MaxInt - 1, math.MaxInt,
	}
	d := &dice{2}
	pick := func() int { return numbers[d.below(len(numbers))] }
	for range 300000 {
		c := usuals()[d.below(3)]
		fields := spans(c.Kind)
		for range d.below(3) {
			c = with(c, fields[d.below(len(fields))].name, pick())
		}
		if d.below(20) == 0 {
			c = with(c, "Kind", pick())
		}
		if d.below(4) == 0 {
			c.Bw = entries(pick(), pick())
		}
		askOwn(t, c, pick(), pick(), pick(), pick(), pick(), pick())
	}
}

// All small numbers, so that each is the lesser, the same and the greater.
func TestSmall(t *testing.T) {
	for _, c := range usuals() {
		for mss := 1; mss < 4; mss++ {
			for cwnd := mss; cwnd < 14; cwnd++ {
				for ssthresh := 2 * mss; ssthresh < 12; ssthresh++ {
					x := with(c, "Mss", mss, "Cwnd", cwnd, "Ssthresh", ssthresh)
					if isBbr(c) {
						x = with(rates(c, 48, ssthresh-2*mss), "Mss", mss, "Cwnd", cwnd, "Mode", 1+ssthresh%4)
					}
					for idle := range 12 {
						for rto := range 6 {
							for used := range 15 {
								askOwn(t, x, idle, rto, used, idle, rto, used)
							}
						}
					}
				}
			}
		}
	}
}

// P19.4

// raised asks what must hold behind each call: that the controller may be, and that its window is no less than a segment.
func raised(t *testing.T, name string, c api.Cc, e api.Errno) {
	t.Helper()
	if e != api.OK || cc.Check(c) != api.OK || c.Cwnd < c.Mss || c.Cwnd > api.MaxSize {
		t.Fatalf("%s: %+v, %d", name, c, e)
	}
}

// next does one call that is thrown, and asks its answer.
func next(t *testing.T, d *dice, c api.Cc, now int) api.Cc {
	t.Helper()
	var got api.Cc
	var e api.Errno
	name := ""
	switch n := d.upTo(api.MaxSize); d.below(12) {
	case 0:
		name = "Loss"
		got, e = cc.Loss(c, n)
		want, _, _ := wantFalls(c, n)
		is(t, name, got, e, want)
	case 1:
		name = "Timeout"
		got, e = cc.Timeout(c, n)
		_, want, _ := wantFalls(c, n)
		is(t, name, got, e, want)
	case 2:
		name = "Done"
		got, e = cc.Done(c)
		_, _, want := wantFalls(c, n)
		is(t, name, got, e, want)
	case 3:
		name = "Limit"
		got, e = cc.Limit(c, n)
		is(t, name, got, e, with(c, "Cwnd", max(n, c.Mss)))
	case 4, 5:
		name = "Rest"
		rto := 1 + d.upTo(2*second)
		idle := rto*d.below(25) + d.below(3)
		got, e = cc.Rest(c, idle, rto, n)
		is(t, name, got, e, wantRest(c, idle, rto, n))
		if got.Cwnd > c.Cwnd {
			t.Fatalf("Rest(%+v, %d, %d, %d) = %+v: the window was raised", c, idle, rto, n, got)
		}
	default:
		name = "Acked"
		s := api.Sample{Now: now, Acked: n >> d.below(20), Rtt: d.upTo(second), Rate: d.upTo(2 * api.MaxRate), Idle: d.below(4) == 0, Given: now, Before: d.upTo(now), Flight: d.upTo(api.MaxSize)}
		srtt := d.upTo(second)
		got, e = cc.Acked(c, s, srtt)
		want, _ := wantAcked(c, s, srtt)
		is(t, name, got, e, want)
	}
	raised(t, name, got, e)
	return got
}

// What calls lead to may be, whatever their order, of each kind: no call makes a window below a segment, and no rest
// raises one.
func TestLongRows(t *testing.T) {
	d := &dice{3}
	for _, kind := range []api.CcKind{api.Reno, api.Cubic, api.Bbr} {
		for range 200 {
			c, e := cc.New(kind, 1+d.upTo(api.MaxMss-1), 1+d.below(100))
			raised(t, "New", c, e)
			now := 0
			for range 300 {
				now += d.upTo(3 * second)
				c = next(t, d, c, now)
				if t.Failed() {
					return
				}
				srtt, floor := d.upTo(second), d.upTo(api.MaxRate)
				if got, want := cc.Pace(c, srtt, floor), wantPace(c, srtt, floor); got != want {
					t.Fatalf("Pace(%+v, %d, %d) = %d, want %d", c, srtt, floor, got, want)
				}
			}
		}
	}
}

// One rest behind another brings no window below two segments, and none up.
func TestRestBehindRest(t *testing.T) {
	for _, kind := range []api.CcKind{api.Reno, api.Cubic} {
		for _, first := range []int{1, 2, 3, 10, 100} {
			c, e := cc.New(kind, 10, first)
			raised(t, "New", c, e)
			for _, timeouts := range []int{1, 2, 1, 0, 3, 30, 1, 2} {
				was := c.Cwnd
				c, e = cc.Rest(c, 1000*timeouts+1, 1000, 0)
				raised(t, "Rest", c, e)
				if want := max(was>>min(timeouts, 20), min(was, 20)); timeouts > 0 && c.Cwnd != want || timeouts == 0 && c.Cwnd != was {
					t.Errorf("Rest of %d timeouts: from %d to %d, want %d", timeouts, was, c.Cwnd, want)
				}
			}
		}
	}
}

// call is one of those that answer a controller.
type call struct {
	name string
	do   func(c api.Cc) (api.Cc, api.Errno)
}

// calls are all of them, with numbers that are taken, and with such as are not.
func calls() []call {
	return []call{
		{"Acked", func(c api.Cc) (api.Cc, api.Errno) { return cc.Acked(c, told("Rate", 950000, "Before", 9000), 100000) }},
		{"Acked, idle", func(c api.Cc) (api.Cc, api.Errno) { return cc.Acked(c, idle(sample()), 100000) }},
		{"Acked, refused", func(c api.Cc) (api.Cc, api.Errno) { return cc.Acked(c, told("Now", -1), 100000) }},
		{"Loss", func(c api.Cc) (api.Cc, api.Errno) { return cc.Loss(c, 150) }},
		{"Loss, refused", func(c api.Cc) (api.Cc, api.Errno) { return cc.Loss(c, -1) }},
		{"Timeout", func(c api.Cc) (api.Cc, api.Errno) { return cc.Timeout(c, 150) }},
		{"Done", cc.Done},
		{"Rest", func(c api.Cc) (api.Cc, api.Errno) { return cc.Rest(c, 5000, 1000, 0) }},
		{"Rest, nothing", func(c api.Cc) (api.Cc, api.Errno) { return cc.Rest(c, 1000, 1000, 0) }},
		{"Rest, refused", func(c api.Cc) (api.Cc, api.Errno) { return cc.Rest(c, -1, 1000, 0) }},
		{"Limit", func(c api.Cc) (api.Cc, api.Errno) { return cc.Limit(c, 50) }},
		{"Limit, refused", func(c api.Cc) (api.Cc, api.Errno) { return cc.Limit(c, -1) }},
		{"Pace", func(c api.Cc) (api.Cc, api.Errno) { return api.Cc{}, api.Errno(min(cc.Pace(c, 100000, 5), 0)) }},
	}
}

// R3, R7: what is handed in stays as it was, what stands behind the end of Bw too, and no answer shares it.
func TestNothingIsShared(t *testing.T) {
	for _, c := range append(usuals(), unrated(80)) {
		for _, a := range calls() {
			handed := append(slices.Clone(c.Bw), entries(71, 72, 73, 74, 75, 76)...)
			before := slices.Clone(handed)
			from := c
			from.Bw = handed[:len(c.Bw)]
			got, _ := a.do(from)
			if !slices.Equal(handed, before) || !same(from, c) {
				t.Errorf("%s of kind %d: %v was handed in, and is now %v", a.name, c.Kind, before, handed)
			}
			clear(got.Bw[:cap(got.Bw)])
			_ = append(got.Bw, api.Entry{At: 9, V: 9})
			if !slices.Equal(handed, before) {
				t.Errorf("%s of kind %d: the answer shares what was handed in: %v", a.name, c.Kind, handed)
			}
		}
	}
}

// R4: the same call answers the same, whatever was done between, and an empty list is like none.
func TestTheSameAgain(t *testing.T) {
	for _, c := range append(usuals(), unrated(80)) {
		empty := c
		if len(c.Bw) == 0 {
			empty.Bw = make([]api.Entry, 0, 3)
		}
		for _, a := range calls() {
			first, firstE := a.do(c)
			for _, x := range append(usuals(), unrated(50)) {
				for _, b := range calls() {
					b.do(x)
				}
			}
			if again, e := a.do(c); e != firstE || !same(again, first) {
				t.Errorf("%s of kind %d: %+v, %d, was %+v, %d", a.name, c.Kind, again, e, first, firstE)
			}
			if other, e := a.do(empty); e != firstE || !same(other, first) {
				t.Errorf("%s of kind %d, an empty list: %+v, %d, want %+v, %d", a.name, c.Kind, other, e, first, firstE)
			}
		}
	}
}
