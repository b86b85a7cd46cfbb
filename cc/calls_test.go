package cc_test

import (
	"math"
	"reflect"
	"testing"

	"tideway/api"
	"tideway/bbr"
	"tideway/cc"
	"tideway/cubic"
	"tideway/reno"
)

// sample is one of a single full segment, 2 seconds behind usualCubic's epoch.
func sample() api.Sample {
	return api.Sample{Now: 6*second + 50, Acked: 10, Given: 9500, Before: 8000, Flight: 150}
}

// told answers sample with fields set: names and numbers by turns.
func told(pairs ...any) api.Sample {
	s := sample()
	set(reflect.ValueOf(&s).Elem(), pairs)
	return s
}

// idle answers s, of an application that had nothing more.
func idle(s api.Sample) api.Sample {
	s.Idle = true
	return s
}

// P19.1: Acked

// step is a call of Acked, and what must be behind it.
type step struct {
	name string
	c    api.Cc
	s    api.Sample
	srtt int
	want api.Cc
}

func askSteps(t *testing.T, l []step) {
	t.Helper()
	for _, a := range l {
		got, e := cc.Acked(a.c, a.s, a.srtt)
		is(t, a.name, got, e, a.want)
	}
}

func TestAckedOfReno(t *testing.T) {
	c := usualReno()
	slow := with(c, "Ssthresh", 100)
	askSteps(t, []step{
		{"nothing", c, told("Acked", 0), 100000, c},
		{"a segment", c, sample(), 100000, with(c, "Acc", 15)},
		{"one below a window", c, told("Acked", 74), 100000, with(c, "Acc", 79)},
		{"a window", c, told("Acked", 75), 100000, with(c, "Acc", 0, "Cwnd", 90)},
		{"a window and more", c, told("Acked", 80), 100000, with(c, "Acc", 5, "Cwnd", 90)},
		{"a window, idle", c, idle(told("Acked", 75)), 100000, c},
		{"below Ssthresh", slow, told("Acked", 9), 100000, with(slow, "Cwnd", 89)},
		{"below Ssthresh, much", slow, told("Acked", size), 100000, with(slow, "Cwnd", 90)},
		{"below Ssthresh, idle", slow, idle(sample()), 100000, slow},
		{"all 0", slow, api.Sample{}, 0, slow},
		{"the greatest", slow, told("Acked", size, "Now", late), late, with(slow, "Cwnd", 90)},
	})
}

// CUBIC's goes by what was acknowledged, by time, and by srtt.
func TestAckedOfCubic(t *testing.T) {
	c := usualCubic()
	begun := with(c, "Epoch", -1)
	slow := with(c, "Ssthresh", 100)
	askSteps(t, []step{
		// 143 ms behind K the curve is flat.
		{"a window", c, told("Now", 6*second, "Acked", 80), 100000, with(c, "Cwnd", 100, "West", 80)},
		{"half a window", c, told("Now", 6*second, "Acked", 40), 100000, with(c, "Cwnd", 90, "West", 77)},
		// 5043 ms behind K it is far above, and half a window is the most.
		{"a window, a long srtt", c, told("Now", 6*second, "Acked", 80), 5 * second, with(c, "Cwnd", 120, "West", 80)},
		{"a window, much later", c, told("Now", 11*second, "Acked", 80), 0, with(c, "Cwnd", 120, "West", 80)},
		{"a window, at the epoch", c, told("Now", 4*second, "Acked", 80), 0, with(c, "West", 80)},
		{"nothing", c, told("Acked", 0), 100000, c},
		{"idle", c, idle(told("Now", 6*second, "Acked", 80)), 100000, begun},
		{"below Ssthresh", slow, told("Acked", 9), 100000, with(slow, "Cwnd", 89)},
		{"below Ssthresh, idle", slow, idle(sample()), 100000, with(slow, "Epoch", -1)},
		{"a new epoch", with(begun, "Cwnd", 70), told("Now", 5), 0, with(c, "Epoch", 5, "Cwnd", 70, "West", 70)},
	})
}

// BBR's goes by the whole Sample.
func TestAckedOfBbr(t *testing.T) {
	c := usualBbr()
	grown := with(c, "Cwnd", 90)
	for _, srtt := range []int{math.MinInt, -1, 0, 1, 100000, late, late + 1, math.MaxInt} {
		askSteps(t, []step{
			{"a segment", c, sample(), srtt, grown},
			{"idle", c, idle(sample()), srtt, grown},
			{"up to the target", c, told("Acked", 300), srtt, with(c, "Cwnd", 200)},
			{"a rate", c, told("Rate", 1000001), srtt, rates(grown, 50, 1000001)},
			{"an idle rate", c, idle(told("Rate", 999999)), srtt, grown},
			{"a rate above MaxRate", c, told("Rate", math.MaxInt), srtt, rates(grown, 50, fastest)},
			{"a round trip", c, told("Rtt", 99), srtt, with(grown, "MinRtt", 99, "MinAt", 6*second+50)},
			{"a new round", c, told("Before", 9000), srtt, with(grown, "Round", 51, "NextAt", 9500)},
			{"a phase", c, told("Now", 7*second), srtt, with(grown, "Phase", 5, "PhaseAt", 7*second)},
			{"out of Drain", with(c, "Mode", 2), told("Flight", 100), srtt, with(grown, "Phase", 2, "PhaseAt", 6*second+50)},
		})
	}
}

// samples are Samples that each kind takes, about the edges of what it goes by.
func samples() []api.Sample {
	l := []api.Sample{{}, sample(), told("Acked", 75), told("Acked", 80), told("Before", 9000), told("Rtt", 50), told("Rate", 2000000), told("Flight", 100)}
	for _, n := range []int{0, 1, size - 1, size} {
		l = append(l, told("Acked", n), told("Flight", n))
	}
	for _, n := range []int{0, 1, 4 * second, 17 * second, late - 1, late} {
		l = append(l, told("Now", n), told("Rtt", n), told("Rate", n), told("Given", n), told("Before", n))
	}
	for _, s := range l {
		l = append(l, idle(s))
	}
	return l
}

// wantAcked answers what the kind's own layer does.
func wantAcked(c api.Cc, s api.Sample, srtt int) (api.Cc, api.Errno) {
	switch c.Kind {
	case api.Reno:
		return reno.Acked(c, s.Acked, s.Idle)
	case api.Cubic:
		return cubic.Acked(c, s.Acked, s.Now, srtt, s.Idle)
	}
	return bbr.Acked(c, s)
}

func TestAckedIsTheLayers(t *testing.T) {
	for _, x := range right() {
		for _, s := range samples() {
			for _, srtt := range []int{0, 1, 100000, late} {
				got, e := cc.Acked(x.c, s, srtt)
				want, wantE := wantAcked(x.c, s, srtt)
				fine(t, x.name+": the layer's", wantE)
				is(t, x.name+": Acked", got, e, want)
			}
		}
	}
}

// isBbr tells whether a controller is BBR's.
func isBbr(c api.Cc) bool { return c.Kind == api.Bbr }

// What Reno and CUBIC do not go by may be whatever it is.
func TestAckedAsksNoMore(t *testing.T) {
	for _, x := range right() {
		if isBbr(x.c) {
			continue
		}
		want, e := cc.Acked(x.c, sample(), 100000)
		fine(t, x.name, e)
		for _, f := range []string{"Rtt", "Rate", "Given", "Before", "Flight"} {
			for _, n := range []int{math.MinInt, -1, 0, 1, size, size + 1, fastest, late, late + 1, math.MaxInt} {
				got, e := cc.Acked(x.c, told(f, n), 100000)
				is(t, x.name+": "+f, got, e, want)
			}
		}
		n := math.MinInt
		got, e := cc.Acked(x.c, told("Rtt", n, "Rate", n, "Given", n, "Before", n, "Flight", n), 100000)
		is(t, x.name+": all", got, e, want)
	}
}

func TestAckedRefuses(t *testing.T) {
	sizes := []int{math.MinInt, -size, -2, -1, size + 1, size + 2, late, math.MaxInt}
	times := []int{math.MinInt, -late, -2, -1, late + 1, late + 2, math.MaxInt}
	for _, x := range right() {
		if isBbr(x.c) {
			continue
		}
		for _, quiet := range []bool{false, true} {
			ask := func(name string, s api.Sample, srtt int) {
				s.Idle = quiet
				got, e := cc.Acked(x.c, s, srtt)
				refused(t, x.name+": "+name, got, e, api.ErrArg)
			}
			for _, n := range sizes {
				ask("Acked", told("Acked", n), 100000)
				ask("Acked, all else 0", api.Sample{Acked: n}, 0)
			}
			for _, n := range times {
				ask("Now", told("Now", n), 100000)
				ask("srtt", sample(), n)
				ask("Now and srtt", told("Now", n), n)
				ask("all", told("Now", n, "Acked", n), n)
			}
		}
	}
}

func TestAckedTakes(t *testing.T) {
	for _, x := range right() {
		for _, n := range []int{0, 1, size - 1, size} {
			for _, now := range []int{0, 1, size + 1, late - 1, late} {
				for _, srtt := range []int{0, 1, size + 1, late - 1, late} {
					got, e := cc.Acked(x.c, told("Acked", n, "Now", now), srtt)
					fine(t, x.name+": Acked", e)
					fine(t, x.name+": what is answered", cc.Check(got))
				}
			}
		}
	}
}

func TestAckedOfBbrRefuses(t *testing.T) {
	limits := []span{{"Now", 0, late}, {"Acked", 0, size}, {"Rtt", 0, late}, {"Rate", 0, math.MaxInt}, {"Given", 0, late}, {"Before", 0, late}, {"Flight", 0, size}}
	for _, x := range right() {
		if !isBbr(x.c) {
			continue
		}
		for _, f := range limits {
			for _, n := range []int{math.MinInt, -1, 0, 1, f.last, f.last + 1, math.MaxInt} {
				for _, s := range []api.Sample{told(f.name, n), idle(told(f.name, n))} {
					got, e := cc.Acked(x.c, s, 100000)
					if n < 0 || n > f.last {
						refused(t, x.name+": "+f.name, got, e, api.ErrArg)
					} else {
						fine(t, x.name+": "+f.name, e)
					}
				}
			}
		}
	}
}

// P19.1: Loss, Timeout, Done

func TestLossAndTimeoutByHand(t *testing.T) {
	r, c, b := usualReno(), usualCubic(), usualBbr()
	fallen := with(c, "Ssthresh", 56, "Wmax", 68, "Epoch", -1, "Acc", 0)
	for _, a := range []struct {
		name          string
		c             api.Cc
		flight        int
		loss, timeout api.Cc
	}{
		{"Reno", r, 101, with(r, "Ssthresh", 50, "Acc", 0), with(r, "Ssthresh", 50, "Acc", 0, "Cwnd", 10)},
		{"Reno, little", r, 39, with(r, "Ssthresh", 20, "Acc", 0), with(r, "Ssthresh", 20, "Acc", 0, "Cwnd", 10)},
		{"CUBIC", c, 101, fallen, with(fallen, "Cwnd", 10)},
		{"CUBIC, little", c, 0, fallen, with(fallen, "Cwnd", 10)},
		{"BBR", b, 101, b, with(b, "Prior", 80, "Cwnd", 10)},
		{"BBR, little", b, 0, b, with(b, "Prior", 80, "Cwnd", 10)},
	} {
		got, e := cc.Loss(a.c, a.flight)
		is(t, a.name+": Loss", got, e, a.loss)
		got, e = cc.Timeout(a.c, a.flight)
		is(t, a.name+": Timeout", got, e, a.timeout)
	}
}

func TestDoneByHand(t *testing.T) {
	got, e := cc.Done(usualReno())
	is(t, "Reno", got, e, with(usualReno(), "Cwnd", 70))
	got, e = cc.Done(usualCubic())
	is(t, "CUBIC", got, e, with(usualCubic(), "Cwnd", 70))
	got, e = cc.Done(usualBbr())
	is(t, "BBR", got, e, usualBbr())
}

// wantFalls answers what the kind's own layer does at a loss, at a timeout, and behind a recovery.
func wantFalls(c api.Cc, flight int) (api.Cc, api.Cc, api.Cc) {
	loss, timeout, done := c, c, c
	switch c.Kind {
	case api.Reno:
		loss, _ = reno.Loss(c, flight)
		timeout, _ = reno.Timeout(c, flight)
		done, _ = reno.Done(c)
	case api.Cubic:
		loss, _ = cubic.Loss(c, flight)
		timeout, _ = cubic.Timeout(c, flight)
		done, _ = cubic.Done(c)
	case api.Bbr:
		timeout, _ = bbr.Timeout(c, flight)
	}
	return loss, timeout, done
}

func TestFallsAreTheLayers(t *testing.T) {
	for _, x := range right() {
		for _, flight := range []int{0, 1, 10, 39, 40, 41, 42, 80, 1000, size - 1, size} {
			loss, timeout, done := wantFalls(x.c, flight)
			got, e := cc.Loss(x.c, flight)
			is(t, x.name+": Loss", got, e, loss)
			got, e = cc.Timeout(x.c, flight)
			is(t, x.name+": Timeout", got, e, timeout)
			got, e = cc.Done(x.c)
			is(t, x.name+": Done", got, e, done)
		}
	}
}

func TestFlightsAreRefused(t *testing.T) {
	for _, x := range right() {
		for _, flight := range []int{math.MinInt, -size, -2, -1, size + 1, size + 2, late, math.MaxInt} {
			got, e := cc.Loss(x.c, flight)
			refused(t, x.name+": Loss", got, e, api.ErrArg)
			got, e = cc.Timeout(x.c, flight)
			refused(t, x.name+": Timeout", got, e, api.ErrArg)
		}
	}
}
