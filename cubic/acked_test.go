package cubic_test

import (
	"testing"

	"tideway/api"
	"tideway/cubic"
	"tideway/reno"
)

// P16.3

func TestIdle(t *testing.T) {
	for _, s := range all() {
		if !s.may {
			continue
		}
		want := s.c
		want.Epoch = -1
		for _, n := range []int{0, 1, 10, 1000, size} {
			for _, now := range []int{0, 3 * second, late} {
				got, e := cubic.Acked(s.c, n, now, now/2, true)
				is(t, s.name+", idle", got, e, want)
			}
		}
	}
}

// Behind idle the curve begins anew, at the window as it is.
func TestIdleBeginsAnew(t *testing.T) {
	c := cc(1000, 10000, 2000, 5, curve{20000, second, 2924, 10000, 10000})
	c, e := cubic.Acked(c, 10000, 2*second, 0, true)
	is(t, "idle", c, e, cc(1000, 10000, 2000, 5, curve{20000, -1, 2924, 10000, 10000}))
	c, e = cubic.Acked(c, 0, 9*second, 0, false)
	is(t, "and then", c, e, cc(1000, 10000, 2000, 5, curve{20000, 9 * second, 2924, 10000, 10000}))
}

// At Ssthresh the window turns from Reno's to the curve, whether there is an epoch or not.
func TestAboutSsthresh(t *testing.T) {
	for _, a := range []struct {
		name        string
		cwnd, epoch int
		wantCwnd    int
		want        curve
	}{
		{"two below", 9998, -1, 10398, curve{12000, -1, 500, 3, 4}},
		{"two below, an epoch", 9998, second, 10398, curve{12000, second, 500, 3, 4}},
		{"one below", 9999, -1, 10399, curve{12000, -1, 500, 3, 4}},
		{"one below, an epoch", 9999, second, 10399, curve{12000, second, 500, 3, 4}},
		{"at it", 10000, -1, 10021, curve{12000, 3 * second, 1709, 10021, 10000}},
		{"at it, an epoch", 10000, second, 10134, curve{12000, second, 500, 24, 4}},
		{"one above", 10001, -1, 10022, curve{12000, 3 * second, 1709, 10022, 10001}},
		{"one above, an epoch", 10001, second, 10134, curve{12000, second, 500, 24, 4}},
	} {
		got, e := cubic.Acked(cc(1000, a.cwnd, 10000, 5, curve{12000, a.epoch, 500, 3, 4}), 400, 3*second, 0, false)
		is(t, a.name, got, e, cc(1000, a.wantCwnd, 10000, 5, a.want))
	}
}

func TestBelowSsthresh(t *testing.T) {
	v := curve{100, 4 * second, 1957, 75, 70}
	for _, a := range []struct {
		name                   string
		mss, cwnd, ssthresh, n int
		wantCwnd               int
	}{
		{"0", 10, 30, 100, 0, 30},
		{"1", 10, 30, 100, 1, 31},
		{"one below Mss", 10, 30, 100, 9, 39},
		{"at Mss", 10, 30, 100, 10, 40},
		{"one above Mss", 10, 30, 100, 11, 40},
		{"Cwnd", 10, 30, 100, 30, 40},
		{"MaxSize", 10, 30, 100, size, 40},
		{"beyond Ssthresh", 10, 95, 100, 10, 105},
		{"Mss 1", 1, 1, 2, 5, 2},
		{"the greatest Mss", most, most, size, size, 2 * most},
		{"one below MaxSize", 10, size - 11, size, 10, size - 1},
		{"at MaxSize", 10, size - 10, size, 10, size},
		{"past MaxSize", 10, size - 9, size, 10, size},
	} {
		for _, acc := range []int{0, 5, 1000, size} {
			got, e := cubic.Acked(cc(a.mss, a.cwnd, a.ssthresh, acc, v), a.n, 9*second, second, false)
			is(t, a.name, got, e, cc(a.mss, a.wantCwnd, a.ssthresh, acc, v))
			r, e := reno.Acked(api.Cc{Kind: api.Reno, Mss: a.mss, Cwnd: a.cwnd, Ssthresh: a.ssthresh, Acc: acc}, a.n, false)
			if e != api.OK || r.Cwnd != got.Cwnd || r.Acc != got.Acc {
				t.Errorf("%s: Reno has %+v, %d", a.name, r, e)
			}
		}
	}
}

// What stood in K, West and Start ahead of an epoch does not matter, and Acc stays.
func TestEpochBegins(t *testing.T) {
	for _, a := range []struct {
		name            string
		mss, cwnd, wmax int
		n, now, srtt    int
		wantCwnd        int
		want            curve
	}{
		{"far below Wmax", 1000, 10000, 20000, 10000, 5000, 0, 10529, curve{20000, 5000, 2924, 10529, 10000}},
		{"far below Wmax, a round trip", 1000, 10000, 20000, 10000, 5000, 2 * second, 15000, curve{20000, 5000, 2924, 10529, 10000}},
		{"one below Wmax", 1000, 10000, 10001, 10000, 5000, 2 * second, 12595, curve{10001, 5000, 135, 10529, 10000}},
		{"at Wmax", 1000, 10000, 10000, 10000, 5000, 2 * second, 13200, curve{10000, 5000, 0, 10529, 10000}},
		{"one above Wmax", 1000, 10000, 9999, 10000, 5000, 2 * second, 13200, curve{10000, 5000, 0, 10529, 10000}},
		{"Wmax 0", 1000, 10000, 0, 10000, 5000, 2 * second, 13200, curve{10000, 5000, 0, 10529, 10000}},
		{"Wmax MaxSize", 1000, 10000, size, 10000, 5000, 2 * second, 15000, curve{size, 5000, 138977, 10529, 10000}},
		{"nothing acknowledged", 1000, 10000, 20000, 0, 5000, 2 * second, 10000, curve{20000, 5000, 2924, 10000, 10000}},

		{"small, one below Wmax", 10, 99, 100, 10, 5000, 0, 99, curve{100, 5000, 629, 99, 99}},
		{"small, at Wmax", 10, 100, 100, 10, 5000, 0, 100, curve{100, 5000, 0, 100, 100}},
		{"small, one above Wmax", 10, 101, 100, 10, 5000, 0, 101, curve{101, 5000, 0, 101, 101}},
		{"the greatest Mss", most, size - 1, size, 0, 0, 0, size - 1, curve{size, 0, 33, size - 1, size - 1}},
		{"the greatest K", 1, 2, size, 1, 0, 0, 2, curve{size, 0, 1389781, 2, 2}},
		{"Cwnd MaxSize", 10, size, size, size, 7, 0, size, curve{size, 7, 0, size, size}},
		{"now 0", 10, 101, 100, 0, 0, 0, 101, curve{101, 0, 0, 101, 101}},
		{"now MaxTime", 10, 101, 100, 0, late, 0, 101, curve{101, late, 0, 101, 101}},
	} {
		for _, x := range []int{0, 7, 5000, mostK} {
			for _, acc := range []int{0, 5, size} {
				c := cc(a.mss, a.cwnd, 2*a.mss, acc, curve{a.wmax, -1, x, x, x})
				got, e := cubic.Acked(c, a.n, a.now, a.srtt, false)
				is(t, a.name, got, e, cc(a.mss, a.wantCwnd, 2*a.mss, acc, a.want))
			}
		}
	}
}

// step is a call of Acked with an epoch that runs since the first second, and what must be behind it: all else stays.
type step struct {
	name               string
	mss, cwnd, wmax, k int
	west               int
	n, now, srtt       int
	wantCwnd, wantWest int
}

func askSteps(t *testing.T, l []step) {
	t.Helper()
	for _, s := range l {
		c := cc(s.mss, s.cwnd, 2*s.mss, 5, curve{s.wmax, second, s.k, s.west, 7})
		got, e := cubic.Acked(c, s.n, s.now, s.srtt, false)
		c.Cwnd, c.West = s.wantCwnd, s.wantWest
		is(t, s.name, got, e, c)
	}
}

func TestEpochRuns(t *testing.T) {
	askSteps(t, []step{
		{"Cwnd one below Wmax", 1000, 9999, 10000, 55, 60, 0, 2 * second, 0, 9999, 60},
		{"Cwnd at Wmax", 1000, 10000, 10000, 55, 60, 0, 2 * second, 0, 10000, 60},
		{"Cwnd one above Wmax", 1000, 10001, 10000, 55, 60, 0, 2 * second, 0, 10001, 60},
		{"K counts", 1000, 10000, 10000, 1000, 0, 10000, 4 * second, 0, 13200, 529},
		{"the greatest K", 1000, 10000, 10000, mostK, 0, 10000, 4 * second, 0, 10000, 529},
	})
}

// The curve is asked a round trip from now, in whole milliseconds.
func TestTime(t *testing.T) {
	const ms = 1000
	for _, a := range []struct{ now, srtt, want int }{
		{second, 0, 10000}, {second, ms - 1, 10000}, {second, ms, 10000},
		{3*second - 1, 0, 13195}, {3 * second, 0, 13200}, {3*second + ms - 1, 0, 13200}, {3*second + ms, 0, 13204},
		{second, 2*second - 1, 13195}, {second, 2 * second, 13200}, {second, 2*second + ms - 1, 13200}, {second, 2*second + ms, 13204},
		{3*second - 1, 1, 13200}, {2 * second, second, 13200}, {2 * second, second - 1, 13195}, {second + ms - 1, 2*second - ms + 1, 13200},

		{second + 1, 2*second - 1, 13200}, {second + 1, 2*second - 2, 13195},
		{second - 1, 2 * second, 13200}, {second - 1, 2*second - 1, 13195}, {second - 1, 2*second + 1, 13200},
		{0, 2 * second, 13200}, {0, 2*second - 1, 13195}, {0, 0, 10000},

		{late, 0, 15000}, {0, late, 15000}, {second, late, 15000}, {late, late, 15000},
	} {
		c := cc(1000, 10000, 2000, 5, curve{10000, second, 0, 0, 7})
		got, e := cubic.Acked(c, 10000, a.now, a.srtt, false)
		c.Cwnd, c.West = a.want, 529
		is(t, "time", got, e, c)
	}
	c := cc(1000, 10000, 2000, 5, curve{10000, late, 0, 0, 7})
	got, e := cubic.Acked(c, 10000, 0, 2*second, false)
	c.Cwnd, c.West = 13200, 529
	is(t, "an epoch at the last time", got, e, c)
}

func TestBytes(t *testing.T) {
	const now = 3 * second
	askSteps(t, []step{
		{"0", 1000, 10000, 10000, 0, 0, 0, now, 0, 10000, 0},
		{"1", 1000, 10000, 10000, 0, 0, 1, now, 0, 10000, 0},
		{"3", 1000, 10000, 10000, 0, 0, 3, now, 0, 10000, 0},
		{"4", 1000, 10000, 10000, 0, 0, 4, now, 0, 10001, 0},
		{"half of Cwnd", 1000, 10000, 10000, 0, 0, 5000, now, 0, 11600, 264},
		{"one below Cwnd", 1000, 10000, 10000, 0, 0, 9999, now, 0, 13199, 528},
		{"Cwnd", 1000, 10000, 10000, 0, 0, 10000, now, 0, 13200, 529},
		{"one above Cwnd", 1000, 10000, 10000, 0, 0, 10001, now, 0, 13200, 529},
		{"twice Cwnd", 1000, 10000, 10000, 0, 0, 20000, now, 0, 16400, 1058},
		{"MaxSize", 1000, 10000, 10000, 0, 0, size, now, 0, 343607383, 56800942},
	})
}

func TestAim(t *testing.T) {
	const now = 3 * second
	askSteps(t, []step{
		{"far below Cwnd", 1000, 20000, 10000, 0, 0, 20000, now, 0, 20000, 529},
		{"one below Cwnd", 1000, 13201, 10000, 0, 0, 13201, now, 0, 13201, 529},
		{"at Cwnd", 1000, 13200, 10000, 0, 0, 13200, now, 0, 13200, 529},
		{"one above Cwnd", 1000, 13199, 10000, 0, 0, 13199, now, 0, 13200, 529},
		{"within, even", 1000, 10400, 10000, 0, 0, 10400, now, 0, 13200, 529},
		{"within, odd", 1000, 10401, 10000, 0, 0, 10401, now, 0, 13200, 529},

		{"at one and a half, even", 1000, 8800, 10000, 0, 0, 8800, now, 0, 13200, 529},
		{"above one and a half, odd", 1000, 8799, 10000, 0, 0, 8799, now, 0, 13198, 529},
		{"below one and a half, odd", 1000, 8801, 10000, 0, 0, 8801, now, 0, 13200, 529},
		{"one above one and a half, even", 1000, 10000, 10000, 0, 0, 10000, second + 2321000, 0, 15000, 529},
		{"just below one and a half, even", 1000, 10000, 10000, 0, 0, 10000, second + 2320000, 0, 14994, 529},
		{"at one and a half, odd", 1000, 10001, 10000, 0, 0, 10001, second + 2321000, 0, 15001, 529},
		{"above one and a half, odd, later", 1000, 10001, 10000, 0, 0, 10001, second + 2322000, 0, 15001, 529},
		{"far above, even", 1000, 10000, 10000, 0, 0, 10000, late, 0, 15000, 529},
		{"far above, odd", 1000, 10001, 10000, 0, 0, 10001, late, 0, 15001, 529},
		{"least, odd", 1, 3, size, 0, 3, 3, second, 0, 4, 3},
		{"least, odd, less acknowledged", 1, 3, size, 0, 3, 2, second, 0, 3, 3},
	})
}

// West is what Reno's window would be, and the window is at least that.
func TestWest(t *testing.T) {
	const now = 3 * second
	askSteps(t, []step{
		{"below Cwnd", 1000, 10000, 10000, 0, 9470, 10000, second, 0, 10000, 9999},
		{"at Cwnd", 1000, 10000, 10000, 0, 9471, 10000, second, 0, 10000, 10000},
		{"above Cwnd", 1000, 10000, 10000, 0, 9472, 10000, second, 0, 10001, 10001},
		{"as an epoch begins", 1000, 10000, 10000, 0, 10000, 10000, second, 0, 10529, 10529},
		{"below Cwnd as it is then", 1000, 10000, 10000, 0, 12670, 10000, now, 0, 13200, 13199},
		{"at Cwnd as it is then", 1000, 10000, 10000, 0, 12671, 10000, now, 0, 13200, 13200},
		{"above Cwnd as it is then", 1000, 10000, 10000, 0, 12672, 10000, now, 0, 13201, 13201},
		{"beyond one and a half", 1000, 10000, 10000, 0, 20000, 10000, now, 0, 20529, 20529},
		{"above Cwnd, nothing acknowledged", 1000, 10000, 10000, 0, 10001, 0, second, 0, 10001, 10001},

		{"cut down, 18", 1000, 10000, 0, 0, 10000, 18, second, 0, 10000, 10000},
		{"cut down, 19", 1000, 10000, 0, 0, 10000, 19, second, 0, 10001, 10001},
		{"cut down, 37", 1000, 10000, 0, 0, 10000, 37, second, 0, 10001, 10001},
		{"cut down, 38", 1000, 10000, 0, 0, 10000, 38, second, 0, 10002, 10002},
		{"Mss 1, 3", 1, 2, 0, 0, 2, 3, second, 0, 2, 2},
		{"Mss 1, 4", 1, 2, 0, 0, 2, 4, second, 0, 3, 3},
	})
}

func TestAtMostMaxSize(t *testing.T) {
	const now, great = 3 * second, 1000000000
	askSteps(t, []step{
		{"West one below", 1000, 10000, 10000, 0, size - 530, 10000, second, 0, size - 1, size - 1},
		{"West at", 1000, 10000, 10000, 0, size - 529, 10000, second, 0, size, size},
		{"West one past", 1000, 10000, 10000, 0, size - 528, 10000, second, 0, size, size},
		{"West MaxSize", 1000, 10000, 10000, 0, size, 10000, second, 0, size, size},
		{"West MaxSize, much", 1000, 10000, 10000, 0, size, size, second, 0, size, size},

		{"Cwnd one below", 1000, great, size, 0, 0, great - 1, second, 0, size - 1, 528},
		{"Cwnd at", 1000, great, size, 0, 0, great, second, 0, size, 529},
		{"Cwnd past", 1000, great, size, 0, 0, size, second, 0, size, 568},
		{"Cwnd one below MaxSize", 1000, size - 1, size, 0, 0, size, second, 0, size, 529},
		{"Cwnd at MaxSize", 1000, size, size, 0, 0, size, now, 0, size, 529},
		{"both at MaxSize", 1000, size, size, 0, size, size, late, late, size, size},
		{"both near MaxSize", 1000, size - 100, size, 0, size - 100, size, second, 0, size, size},
		{"one and a half just below", 1000, 715827882, size, 0, 0, 715827882, second, 0, size - 1, 529},
		{"one and a half just past", 1000, 715827883, size, 0, 0, 715827883, second, 0, size, 529},
	})
}

// P16.4

// fallen asks Loss and Timeout of one controller: what Ssthresh and Wmax are then; all flights do alike.
func fallen(t *testing.T, name string, c api.Cc, ssthresh, wmax int) {
	t.Helper()
	want := c
	want.Ssthresh, want.Wmax, want.Epoch, want.Acc = ssthresh, wmax, -1, 0
	for _, flight := range []int{0, 1, c.Mss, c.Cwnd - 1, c.Cwnd, size - 1, size} {
		got, e := cubic.Loss(c, flight)
		is(t, name+": Loss", got, e, want)
	}
	want.Cwnd = c.Mss
	for _, flight := range []int{0, 1, c.Mss, c.Cwnd - 1, c.Cwnd, size - 1, size} {
		got, e := cubic.Timeout(c, flight)
		is(t, name+": Timeout", got, e, want)
	}
}

func TestFalls(t *testing.T) {
	for _, a := range []struct {
		name           string
		mss, cwnd      int
		wmax           int
		ssthresh, want int
	}{
		{"one below Wmax", 10, 100, 101, 70, 85},
		{"at Wmax", 10, 100, 100, 70, 100},
		{"one above Wmax", 10, 100, 99, 70, 100},
		{"far above Wmax", 10, 100, 0, 70, 100},
		{"far below Wmax", 10, 100, size, 70, 85},

		{"17 twentieths of 99", 10, 99, 100, 69, 84},
		{"17 twentieths of 101", 10, 101, 102, 70, 85},
		{"17 twentieths of 119", 10, 119, 120, 83, 101},
		{"17 twentieths of 39", 1, 39, 40, 27, 33},
		{"17 twentieths of 40", 1, 40, 41, 28, 34},
		{"17 twentieths of 1", 1, 1, 2, 2, 0},

		{"seven tenths of 71", 10, 71, 0, 49, 71},
		{"seven tenths of 72", 10, 72, 0, 50, 72},
		{"two below 2 Mss", 10, 27, 0, 20, 27},
		{"one below 2 Mss", 10, 28, 0, 20, 28},
		{"at 2 Mss", 10, 29, 0, 20, 29},
		{"one above 2 Mss", 10, 30, 0, 21, 30},
		{"Cwnd at Mss", 10, 10, 0, 20, 10},
		{"Mss 1, one below 2 Mss", 1, 2, 0, 2, 2},
		{"Mss 1, at 2 Mss", 1, 3, 0, 2, 3},
		{"Mss 1, above 2 Mss", 1, 5, 0, 3, 5},
		{"the greatest Mss", most, most, size, 2 * most, 55250},

		{"MaxSize", 10, size, size, 751619276, size},
		{"one below MaxSize", 10, size - 1, size, 751619276, 912680549},
	} {
		for _, epoch := range []int{-1, 0, second, late} {
			for _, x := range []int{0, 5, 77, mostK} {
				c := cc(a.mss, a.cwnd, 2*a.mss+x, x, curve{a.wmax, epoch, x, x, x})
				fallen(t, a.name, c, a.ssthresh, a.want)
			}
		}
	}
}

func TestDone(t *testing.T) {
	for _, a := range []struct{ mss, cwnd, ssthresh int }{
		{10, 100, 50}, {10, 50, 100}, {10, 50, 50}, {10, 10, 20}, {1, 1, 2}, {10, size, 20}, {10, 10, size},
		{10, size, size}, {most, most, 2 * most}, {most, size, 2 * most}, {most, most, size},
	} {
		for _, x := range []int{0, 5, 77, mostK} {
			for _, epoch := range []int{-1, 0, second, late} {
				v := curve{2 * x, epoch, x, x + 1, x + 2}
				got, e := cubic.Done(cc(a.mss, a.cwnd, a.ssthresh, x, v))
				is(t, "Done", got, e, cc(a.mss, a.ssthresh, a.ssthresh, x, v))
			}
		}
	}
}

// A loss, the recovery behind it, and the way back: steep at first, flat about what was, then steep again.
func TestWayBack(t *testing.T) {
	c := cc(1000, 100000, 2000, 0, curve{wmax: 90000, epoch: -1})
	c, e := cubic.Loss(c, 100000)
	is(t, "Loss", c, e, cc(1000, 100000, 70000, 0, curve{wmax: 100000, epoch: -1}))
	c, e = cubic.Done(c)
	is(t, "Done", c, e, cc(1000, 70000, 70000, 0, curve{wmax: 100000, epoch: -1}))
	c, e = cubic.Acked(c, 0, 10*second, 0, false)
	is(t, "Acked", c, e, cc(1000, 70000, 70000, 0, curve{100000, 10 * second, 4217, 70000, 70000}))
	for i := range 8 {
		c, e = cubic.Acked(c, c.Cwnd, 10*second+i*second, second, false)
		fine(t, "Acked", e)
		at := 1000 * (i + 1)
		if want := max(cubic.Curve(c, at), c.West); c.Cwnd != want {
			t.Errorf("a round to %d: Cwnd %d, want %d", at, c.Cwnd, want)
		}
	}
	c, e = cubic.Timeout(c, 0)
	fine(t, "Timeout", e)
	if c.Cwnd != 1000 || c.Epoch != -1 {
		t.Errorf("Timeout: %+v", c)
	}
}
