package reno_test

import (
	"math"
	"reflect"
	"testing"

	"tideway/api"
	"tideway/reno"
)

const (
	size = api.MaxSize
	most = api.MaxMss
)

// fine asks that a call went well.
func fine(t *testing.T, name string, e api.Errno) {
	t.Helper()
	if e != api.OK {
		t.Errorf("%s: error %d", name, e)
	}
}

// same tells whether two controllers are alike in all fields; an empty list is like none.
func same(a, b api.Cc) bool {
	if len(a.Bw) == 0 && len(b.Bw) == 0 {
		a.Bw, b.Bw = nil, nil
	}
	return reflect.DeepEqual(a, b)
}

// is asks that a controller is the wanted one, that it may be, and that there was no error.
func is(t *testing.T, name string, got api.Cc, e api.Errno, want api.Cc) {
	t.Helper()
	if e != api.OK || !same(got, want) {
		t.Errorf("%s: %+v, %d, want %+v", name, got, e, want)
	}
	fine(t, name+": what is answered", reno.Check(got))
}

// refused asks that a call answered an error, and nothing besides.
func refused(t *testing.T, name string, got api.Cc, e api.Errno, want api.Errno) {
	t.Helper()
	if e != want || !same(got, api.Cc{}) {
		t.Errorf("%s: %+v, %d, want error %d", name, got, e, want)
	}
}

// cc answers a controller of Reno's own fields.
func cc(mss, cwnd, ssthresh, acc int) api.Cc {
	return api.Cc{Kind: api.Reno, Mss: mss, Cwnd: cwnd, Ssthresh: ssthresh, Acc: acc}
}

// The chapter's example, with all that the controller has at each step.
func TestExample(t *testing.T) {
	c, e := reno.New(10, 2)
	is(t, "New", c, e, cc(10, 20, size, 0))
	c, e = reno.Acked(c, 15, false)
	is(t, "Acked", c, e, cc(10, 30, size, 0))
	c, e = reno.Loss(c, 40)
	is(t, "Loss", c, e, cc(10, 30, 20, 0))
	c, e = reno.Done(c)
	is(t, "Done", c, e, cc(10, 20, 20, 0))
}

// P15.1: Check

// state is a controller, and whether it may be.
type state struct {
	name string
	c    api.Cc
	may  bool
}

// states are controllers about every edge of Reno's own fields.
func states() []state {
	return []state{
		{"ordinary", cc(10, 30, 40, 5), true},
		{"the zero value", api.Cc{}, false},
		{"Kind alone", api.Cc{Kind: api.Reno}, false},

		{"Mss far below 0", cc(math.MinInt, 30, 40, 5), false},
		{"Mss half of far below 0", cc(math.MinInt/2, 30, 40, 5), false},
		{"Mss -1", cc(-1, 30, 40, 5), false},
		{"Mss 0", cc(0, 30, 40, 5), false},
		{"Mss 0, all else 0", cc(0, 0, 0, 0), false},
		{"Mss 1", cc(1, 30, 40, 5), true},
		{"Mss one below MaxMss", cc(most-1, size, size, 5), true},
		{"Mss MaxMss", cc(most, size, size, 5), true},
		{"Mss one past MaxMss", cc(most+1, size, size, 5), false},
		{"Mss far past MaxMss", cc(math.MaxInt, size, size, 5), false},
		{"Mss far past MaxMss, all else too", cc(math.MaxInt, math.MaxInt, math.MaxInt, 5), false},

		{"Cwnd far below 0", cc(10, math.MinInt, 40, 5), false},
		{"Cwnd -1", cc(10, -1, 40, 5), false},
		{"Cwnd 0", cc(10, 0, 40, 5), false},
		{"Cwnd 0 of Mss 1", cc(1, 0, 40, 5), false},
		{"Cwnd 1 of Mss 1", cc(1, 1, 40, 5), true},
		{"Cwnd one below Mss", cc(10, 9, 40, 5), false},
		{"Cwnd at Mss", cc(10, 10, 40, 5), true},
		{"Cwnd one above Mss", cc(10, 11, 40, 5), true},
		{"Cwnd one below Mss, the greatest", cc(most, most-1, size, 5), false},
		{"Cwnd at Mss, the greatest", cc(most, most, size, 5), true},
		{"Cwnd one below MaxSize", cc(10, size-1, 40, 5), true},
		{"Cwnd at MaxSize", cc(10, size, 40, 5), true},
		{"Cwnd one past MaxSize", cc(10, size+1, 40, 5), false},
		{"Cwnd far past MaxSize", cc(10, math.MaxInt, 40, 5), false},

		{"Ssthresh far below 0", cc(10, 30, math.MinInt, 5), false},
		{"Ssthresh -1", cc(10, 30, -1, 5), false},
		{"Ssthresh 0", cc(10, 30, 0, 5), false},
		{"Ssthresh at Mss", cc(10, 30, 10, 5), false},
		{"Ssthresh one below 2 Mss", cc(10, 30, 19, 5), false},
		{"Ssthresh at 2 Mss", cc(10, 30, 20, 5), true},
		{"Ssthresh one above 2 Mss", cc(10, 30, 21, 5), true},
		{"Ssthresh 1 of Mss 1", cc(1, 30, 1, 5), false},
		{"Ssthresh 2 of Mss 1", cc(1, 30, 2, 5), true},
		{"Ssthresh one below 2 Mss, the greatest", cc(most, most, 2*most-1, 5), false},
		{"Ssthresh at 2 Mss, the greatest", cc(most, most, 2*most, 5), true},
		{"Ssthresh one below MaxSize", cc(10, 30, size-1, 5), true},
		{"Ssthresh at MaxSize", cc(10, 30, size, 5), true},
		{"Ssthresh one past MaxSize", cc(10, 30, size+1, 5), false},
		{"Ssthresh far past MaxSize", cc(10, 30, math.MaxInt, 5), false},

		{"Acc far below 0", cc(10, 30, 40, math.MinInt), false},
		{"Acc -1", cc(10, 30, 40, -1), false},
		{"Acc 0", cc(10, 30, 40, 0), true},
		{"Acc at Cwnd", cc(10, 30, 40, 30), true},
		{"Acc above Cwnd", cc(10, 30, 40, 31), true},
		{"Acc one below MaxSize", cc(10, 30, 40, size-1), true},
		{"Acc at MaxSize", cc(10, 30, 40, size), true},
		{"Acc one past MaxSize", cc(10, 30, 40, size+1), false},
		{"Acc far past MaxSize", cc(10, 30, 40, math.MaxInt), false},

		{"all least", cc(1, 1, 2, 0), true},
		{"all greatest", cc(most, size, size, size), true},
		{"all one past", cc(most+1, size+1, size+1, size+1), false},
	}
}

// kinds are controllers of each kind that is not Reno.
func kinds() []state {
	var l []state
	for _, kind := range []api.CcKind{math.MinInt, -1, 0, api.Cubic, api.Bbr, 4, 257, 1 << 32, math.MaxInt} {
		c := cc(10, 30, 40, 5)
		c.Kind = kind
		l = append(l, state{"another Kind", c, false})
	}
	return l
}

// strange are controllers with one field that is not Reno's, and not zero: each in turn.
func strange() []state {
	var l []state
	own := map[string]bool{"Kind": true, "Mss": true, "Cwnd": true, "Ssthresh": true, "Acc": true}
	for i := range reflect.TypeFor[api.Cc]().NumField() {
		name := reflect.TypeFor[api.Cc]().Field(i).Name
		if own[name] {
			continue
		}
		for _, x := range []int64{math.MinInt64, -1, 1, 2, 100, 1 << 32, math.MaxInt64} {
			c := cc(10, 30, 40, 5)
			if f := reflect.ValueOf(&c).Elem().Field(i); f.CanInt() {
				f.SetInt(x)
			} else {
				c.Bw = []api.Entry{{At: int(x), V: 7}}
			}
			l = append(l, state{name, c, false})
		}
	}
	return l
}

// together are controllers with several fields that are not Reno's.
func together() []state {
	c := cc(10, 30, 40, 5)
	fresh := cc(10, 30, size, 0)
	fresh.Epoch = -1
	cubic, bbr, cancel, zeros, many := c, c, c, c, c
	cubic.Wmax, cubic.K, cubic.West, cubic.Start = 100, 5, 30, 30
	bbr.Mode, bbr.MinRtt, bbr.Full = api.Startup, 5, 7
	cancel.Wmax, cancel.K = 1, -1
	zeros.Bw = make([]api.Entry, 1)
	many.Bw = make([]api.Entry, 3)
	return []state{
		{"Epoch as CUBIC has it at first", fresh, false}, {"as CUBIC", cubic, false}, {"as BBR", bbr, false},
		{"two that add up to 0", cancel, false}, {"an entry of zeros", zeros, false}, {"three of them", many, false},
	}
}

func all() []state {
	l := append(states(), kinds()...)
	return append(append(l, strange()...), together()...)
}

func TestCheck(t *testing.T) {
	for _, s := range all() {
		want := api.ErrState
		if s.may {
			want = api.OK
		}
		if got := reno.Check(s.c); got != want {
			t.Errorf("%s: Check(%+v) = %d, want %d", s.name, s.c, got, want)
		}
	}
}

func TestEachFieldIsAsked(t *testing.T) {
	names := map[string]bool{}
	for _, s := range strange() {
		names[s.name] = true
	}
	if want := reflect.TypeFor[api.Cc]().NumField() - 5; len(names) != want {
		t.Errorf("%d fields, want %d", len(names), want)
	}
}

// R2: what may not be is named ahead of a number that may not be, and whatever else is right or wrong.
func TestOthersAreRefused(t *testing.T) {
	for _, s := range all() {
		for _, n := range []int{math.MinInt, -1, 0, 1, size, size + 1, math.MaxInt} {
			if s.may {
				continue
			}
			got, e := reno.Acked(s.c, n, false)
			refused(t, s.name+": Acked", got, e, api.ErrState)
			got, e = reno.Acked(s.c, n, true)
			refused(t, s.name+": Acked, idle", got, e, api.ErrState)
			got, e = reno.Loss(s.c, n)
			refused(t, s.name+": Loss", got, e, api.ErrState)
			got, e = reno.Timeout(s.c, n)
			refused(t, s.name+": Timeout", got, e, api.ErrState)
			got, e = reno.Done(s.c)
			refused(t, s.name+": Done", got, e, api.ErrState)
		}
	}
}

func TestNumbersAreRefused(t *testing.T) {
	for _, s := range all() {
		if !s.may {
			continue
		}
		for _, n := range []int{math.MinInt, -size, -2, -1, size + 1, size + 2, 2 * size, 1 << 50, math.MaxInt} {
			got, e := reno.Acked(s.c, n, false)
			refused(t, s.name+": Acked", got, e, api.ErrArg)
			got, e = reno.Acked(s.c, n, true)
			refused(t, s.name+": Acked, idle", got, e, api.ErrArg)
			got, e = reno.Loss(s.c, n)
			refused(t, s.name+": Loss", got, e, api.ErrArg)
			got, e = reno.Timeout(s.c, n)
			refused(t, s.name+": Timeout", got, e, api.ErrArg)
		}
		for _, n := range []int{0, 1, size - 1, size} {
			_, e := reno.Acked(s.c, n, false)
			fine(t, s.name+": Acked", e)
			_, e = reno.Acked(s.c, n, true)
			fine(t, s.name+": Acked, idle", e)
			_, e = reno.Loss(s.c, n)
			fine(t, s.name+": Loss", e)
			_, e = reno.Timeout(s.c, n)
			fine(t, s.name+": Timeout", e)
		}
	}
}

// P15.1: New

func TestNew(t *testing.T) {
	for _, c := range []struct{ mss, first, cwnd int }{
		{1, 1, 1}, {1, 2, 2}, {1, 99, 99}, {1, 100, 100}, {10, 2, 20}, {1460, 10, 14600}, {8, 4, 32},
		{most - 1, 1, 64999}, {most, 1, 65000}, {most, 99, 6435000}, {most, 100, 6500000},
	} {
		got, e := reno.New(c.mss, c.first)
		is(t, "New", got, e, api.Cc{Kind: api.Reno, Mss: c.mss, Cwnd: c.cwnd, Ssthresh: size})
	}
}

func TestNewRefuses(t *testing.T) {
	wrongMss := []int{math.MinInt, -10, -1, 0, most + 1, most + 2, size, math.MaxInt}
	wrongFirst := []int{math.MinInt, -2, -1, 0, 101, 102, most, size, math.MaxInt}
	for _, mss := range wrongMss {
		for _, first := range []int{1, 2, 100} {
			got, e := reno.New(mss, first)
			refused(t, "New, mss", got, e, api.ErrArg)
		}
	}
	for _, first := range wrongFirst {
		for _, mss := range []int{1, 10, most} {
			got, e := reno.New(mss, first)
			refused(t, "New, first", got, e, api.ErrArg)
		}
		for _, mss := range wrongMss {
			got, e := reno.New(mss, first)
			refused(t, "New, both", got, e, api.ErrArg)
		}
	}
}

// P15.2: Acked

// ack is a call of Acked, not idle, and what must be behind it.
type ack struct {
	name                     string
	mss, cwnd, ssthresh, acc int
	n                        int
	wantCwnd, wantAcc        int
}

func askAcks(t *testing.T, l []ack) {
	t.Helper()
	for _, a := range l {
		got, e := reno.Acked(cc(a.mss, a.cwnd, a.ssthresh, a.acc), a.n, false)
		is(t, a.name, got, e, cc(a.mss, a.wantCwnd, a.ssthresh, a.wantAcc))
	}
}

func TestSlowStart(t *testing.T) {
	askAcks(t, []ack{
		{"0", 10, 30, 100, 0, 0, 30, 0},
		{"1", 10, 30, 100, 0, 1, 31, 0},
		{"one below Mss", 10, 30, 100, 0, 9, 39, 0},
		{"at Mss", 10, 30, 100, 0, 10, 40, 0},
		{"one above Mss", 10, 30, 100, 0, 11, 40, 0},
		{"twice Mss", 10, 30, 100, 0, 20, 40, 0},
		{"at Cwnd", 10, 30, 100, 0, 30, 40, 0},
		{"MaxSize", 10, 30, 100, 0, size, 40, 0},
		{"Mss 1", 1, 1, 2, 0, 1, 2, 0},
		{"Mss 1, much", 1, 1, 2, 0, 100, 2, 0},
		{"the greatest Mss", most, most, size, 0, size, 2 * most, 0},
		{"beyond Ssthresh", 10, 95, 100, 0, 10, 105, 0},
		{"up to Ssthresh", 10, 90, 100, 0, 10, 100, 0},
		{"Acc stays", 10, 30, 100, 5, 10, 40, 5},
		{"Acc stays, above Cwnd", 10, 30, 100, 50, 10, 40, 50},
		{"Acc stays, the greatest", 10, 30, 100, size, 10, 40, size},
	})
}

func TestAboutSsthresh(t *testing.T) {
	askAcks(t, []ack{
		{"Cwnd one below", 10, 39, 40, 0, 5, 44, 0},
		{"Cwnd at", 10, 40, 40, 0, 5, 40, 5},
		{"Cwnd one above", 10, 41, 40, 0, 5, 41, 5},
		{"Cwnd far above", 10, 4000, 40, 0, 5, 4000, 5},
		{"Cwnd one below, a whole window", 10, 39, 40, 0, 39, 49, 0},
		{"Cwnd at, a whole window", 10, 40, 40, 0, 40, 50, 0},
		{"Cwnd one above, a whole window", 10, 41, 40, 0, 41, 51, 0},
		{"both least, below", 1, 1, 2, 0, 1, 2, 0},
		{"both least, at", 1, 2, 2, 0, 1, 2, 1},
		{"both MaxSize", 10, size, size, 0, 5, size, 5},
		{"one below MaxSize", 10, size - 1, size, 0, 5, size, 0},
	})
}

func TestAvoidance(t *testing.T) {
	askAcks(t, []ack{
		{"0", 10, 100, 50, 0, 0, 100, 0},
		{"1", 10, 100, 50, 0, 1, 100, 1},
		{"Mss", 10, 100, 50, 0, 10, 100, 10},
		{"Acc, and 0", 10, 100, 50, 40, 0, 100, 40},
		{"Acc, and some", 10, 100, 50, 40, 30, 100, 70},

		{"one below Cwnd", 10, 100, 50, 40, 59, 100, 99},
		{"at Cwnd", 10, 100, 50, 40, 60, 110, 0},
		{"one above Cwnd", 10, 100, 50, 40, 61, 110, 1},
		{"one below Cwnd, of n alone", 10, 100, 50, 0, 99, 100, 99},
		{"at Cwnd, of n alone", 10, 100, 50, 0, 100, 110, 0},
		{"one above Cwnd, of n alone", 10, 100, 50, 0, 101, 110, 1},
		{"one below Cwnd, of Acc alone", 10, 100, 50, 99, 0, 100, 99},
		{"at Cwnd, of Acc alone", 10, 100, 50, 100, 0, 110, 0},
		{"one above Cwnd, of Acc alone", 10, 100, 50, 101, 0, 110, 1},
		{"up to Cwnd and Mss", 10, 100, 50, 40, 70, 110, 10},

		{"one below twice Cwnd", 10, 100, 50, 40, 159, 110, 99},
		{"twice Cwnd", 10, 100, 50, 40, 160, 110, 100},
		{"one above twice Cwnd", 10, 100, 50, 40, 161, 110, 101},
		{"Cwnd, and as it is then", 10, 100, 50, 0, 210, 110, 110},
		{"ten times Cwnd", 10, 100, 50, 0, 1000, 110, 900},
		{"much of Acc, n 0", 10, 100, 50, 1000, 0, 110, 900},
		{"much of both", 10, 100, 50, 500, 500, 110, 900},

		{"Mss 1", 1, 2, 2, 1, 1, 3, 0},
		{"the greatest Mss", most, 2 * most, 2 * most, 0, 2 * most, 3 * most, 0},
	})
}

// Rounds of one window each, with what is left over carried on.
func TestLeftOverCounts(t *testing.T) {
	c := cc(10, 100, 50, 0)
	for i, want := range []struct{ cwnd, acc int }{{100, 60}, {110, 20}, {110, 80}, {120, 30}, {120, 90}, {130, 30}, {130, 90}, {140, 20}} {
		var e api.Errno
		c, e = reno.Acked(c, 60, false)
		is(t, "60 more", c, e, cc(10, want.cwnd, 50, want.acc))
		if t.Failed() {
			t.Fatalf("at %d", i)
		}
	}
	c = cc(10, 100, 50, 400)
	for _, want := range []struct{ cwnd, acc int }{{110, 300}, {120, 190}, {130, 70}, {130, 70}} {
		var e api.Errno
		c, e = reno.Acked(c, 0, false)
		is(t, "0 more", c, e, cc(10, want.cwnd, 50, want.acc))
	}
}

func TestAckedAtMostMaxSize(t *testing.T) {
	askAcks(t, []ack{
		{"slow start, one below", 10, size - 11, size, 0, 10, size - 1, 0},
		{"slow start, at", 10, size - 10, size, 0, 10, size, 0},
		{"slow start, one past", 10, size - 9, size, 0, 10, size, 0},
		{"slow start, by little", 10, size - 9, size, 0, 9, size, 0},
		{"slow start, by less", 10, size - 9, size, 0, 8, size - 1, 0},
		{"slow start, the greatest Mss", most, size - 1, size, 0, size, size, 0},

		{"avoidance, one below", 10, size - 11, 50, 0, size - 11, size - 1, 0},
		{"avoidance, at", 10, size - 10, 50, 0, size - 10, size, 0},
		{"avoidance, one past", 10, size - 9, 50, 0, size - 9, size, 0},
		{"avoidance, the greatest Mss", most, size - 1, 2 * most, 0, size - 1, size, 0},
		{"avoidance, at MaxSize", 10, size, 50, 0, size, size, 0},
		{"avoidance, at MaxSize, one less", 10, size, 50, 0, size - 1, size, size - 1},
		{"avoidance, at MaxSize, of both", 10, size, 50, size, 5, size, 5},
		{"avoidance, at MaxSize, twice", 10, size, 50, size, size, size, size},
	})
}

// Acc and n together may be beyond MaxSize: what is left behind the window is held against it, not what was ahead.
func TestAccAtMostMaxSize(t *testing.T) {
	askAcks(t, []ack{
		{"together one below", 10, 100, 50, size - 6, 5, 110, size - 101},
		{"together at", 10, 100, 50, size - 5, 5, 110, size - 100},
		{"together one past", 10, 100, 50, size - 4, 5, 110, size - 99},
		{"together 99 past", 10, 100, 50, size - 1, 100, 110, size - 1},
		{"together 100 past", 10, 100, 50, size, 100, 110, size},
		{"together 101 past", 10, 100, 50, size, 101, 110, size},
		{"twice MaxSize", 10, 100, 50, size, size, 110, size},
		{"twice MaxSize, n one less", 10, 100, 50, size, size - 1, 110, size},
		{"twice MaxSize, Cwnd near", 10, size - 5, 50, size, size, size, size},
		{"Cwnd near, past it", 10, size - 5, 50, size, 7, size, 12},
		{"Acc MaxSize, n 0", 10, 100, 50, size, 0, 110, size - 100},
		{"n MaxSize, Acc 0", 10, 100, 50, 0, size, 110, size - 100},
	})
}

func TestIdle(t *testing.T) {
	for _, s := range all() {
		if !s.may {
			continue
		}
		for _, n := range []int{0, 1, 9, 10, 11, 30, 1000, size - 1, size} {
			got, e := reno.Acked(s.c, n, true)
			is(t, s.name+", idle", got, e, s.c)
		}
	}
	for _, c := range []api.Cc{cc(10, 30, 100, 0), cc(10, 99, 100, 5), cc(10, 100, 100, 99), cc(10, 100, 50, 500), cc(10, size, 50, size)} {
		for _, n := range []int{0, 1, 10, 100, 1000, size} {
			got, e := reno.Acked(c, n, true)
			is(t, "idle", got, e, c)
		}
	}
}

// P15.2: Loss, Timeout, Done

func TestFalls(t *testing.T) {
	for _, c := range []struct {
		name                  string
		mss, flight, ssthresh int
	}{
		{"even", 10, 100, 50},
		{"odd", 10, 101, 50},
		{"even again", 10, 102, 51},
		{"0", 10, 0, 20},
		{"1", 10, 1, 20},
		{"two below 4 Mss", 10, 38, 20},
		{"one below 4 Mss", 10, 39, 20},
		{"at 4 Mss", 10, 40, 20},
		{"one above 4 Mss", 10, 41, 20},
		{"two above 4 Mss", 10, 42, 21},
		{"three above 4 Mss", 10, 43, 21},
		{"below Mss", 10, 9, 20},
		{"Mss 1, 0", 1, 0, 2},
		{"Mss 1, 3", 1, 3, 2},
		{"Mss 1, 5", 1, 5, 2},
		{"Mss 1, 6", 1, 6, 3},
		{"one below MaxSize", 10, size - 1, size/2 - 1},
		{"MaxSize", 10, size, size / 2},
		{"the greatest Mss, 0", most, 0, 2 * most},
		{"the greatest Mss, below 4 of it", most, 4*most - 1, 2 * most},
		{"the greatest Mss, two above 4 of it", most, 4*most + 2, 2*most + 1},
		{"the greatest Mss, MaxSize", most, size, size / 2},
	} {
		for _, cwnd := range []int{c.mss, c.mss + 7, 2 * c.mss, 1000 * c.mss, size} {
			for _, before := range []int{2 * c.mss, 3 * c.mss, size} {
				for _, acc := range []int{0, 5, size} {
					got, e := reno.Loss(cc(c.mss, cwnd, before, acc), c.flight)
					is(t, c.name+": Loss", got, e, cc(c.mss, cwnd, c.ssthresh, 0))
					got, e = reno.Timeout(cc(c.mss, cwnd, before, acc), c.flight)
					is(t, c.name+": Timeout", got, e, cc(c.mss, c.mss, c.ssthresh, 0))
				}
			}
		}
	}
}

func TestDone(t *testing.T) {
	for _, c := range []struct{ mss, cwnd, ssthresh int }{
		{10, 100, 50}, {10, 50, 100}, {10, 50, 50}, {10, 10, 20}, {1, 1, 2}, {10, size, 20}, {10, 10, size},
		{10, size, size}, {most, most, 2 * most}, {most, size, 2 * most}, {most, most, size},
	} {
		for _, acc := range []int{0, 5, 1000, size - 1, size} {
			got, e := reno.Done(cc(c.mss, c.cwnd, c.ssthresh, acc))
			is(t, "Done", got, e, cc(c.mss, c.ssthresh, c.ssthresh, acc))
		}
	}
}
