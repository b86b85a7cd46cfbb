package prr_test

import (
	"math"
	"testing"

	"tideway/api"
	"tideway/prr"
)

const (
	top  = api.MaxOffset
	size = api.MaxSize
)

// fine asks that a call went well.
func fine(t *testing.T, name string, e api.Errno) {
	t.Helper()
	if e != api.OK {
		t.Errorf("%s: error %d", name, e)
	}
}

// is asks that a state is the wanted one, and that there was no error.
func is(t *testing.T, name string, got api.Prr, e api.Errno, want api.Prr) {
	t.Helper()
	if e != api.OK || got != want {
		t.Errorf("%s: %+v, %d, want %+v", name, got, e, want)
	}
}

// refused asks that a call answered an error, and nothing besides.
func refused(t *testing.T, name string, got api.Prr, may int, e api.Errno, want api.Errno) {
	t.Helper()
	if e != want || may != 0 || got != (api.Prr{}) {
		t.Errorf("%s: %+v, %d, %d, want error %d", name, got, may, e, want)
	}
}

// The chapter's example.
func TestExample(t *testing.T) {
	p, e := prr.Begin(100)
	is(t, "Begin", p, e, api.Prr{Flight: 100})
	p, may, e := prr.Given(p, 10, 90, 50, 4, false)
	is(t, "Given 10", p, e, api.Prr{Given: 10, Flight: 100})
	if may != 5 {
		t.Errorf("Given 10: %d, want 5", may)
	}
	p, e = prr.Sent(p, 5)
	is(t, "Sent 5", p, e, api.Prr{Given: 10, Out: 5, Flight: 100})
	p, may, e = prr.Given(p, 10, 85, 50, 4, false)
	is(t, "Given 10 more", p, e, api.Prr{Given: 20, Out: 5, Flight: 100})
	if may != 5 {
		t.Errorf("Given 10 more: %d, want 5", may)
	}
}

// P14.1: Check

// states are states, and whether they may be.
func states() []struct {
	name string
	p    api.Prr
	may  bool
} {
	return []struct {
		name string
		p    api.Prr
		may  bool
	}{
		{"ordinary", api.Prr{Given: 20, Out: 5, Flight: 100}, true},
		{"fresh", api.Prr{Flight: 1}, true},
		{"the zero value", api.Prr{}, false},
		{"more Out than Given", api.Prr{Given: 5, Out: 20, Flight: 100}, true},
		{"more Given than Flight", api.Prr{Given: 200, Out: 20, Flight: 100}, true},
		{"more Out than Flight", api.Prr{Given: 20, Out: 200, Flight: 100}, true},

		{"Given far below 0", api.Prr{Given: math.MinInt, Out: 5, Flight: 100}, false},
		{"Given -1", api.Prr{Given: -1, Out: 5, Flight: 100}, false},
		{"Given 0", api.Prr{Given: 0, Out: 5, Flight: 100}, true},
		{"Given one below MaxOffset", api.Prr{Given: top - 1, Out: 5, Flight: 100}, true},
		{"Given at MaxOffset", api.Prr{Given: top, Out: 5, Flight: 100}, true},
		{"Given one past MaxOffset", api.Prr{Given: top + 1, Out: 5, Flight: 100}, false},
		{"Given far past MaxOffset", api.Prr{Given: math.MaxInt, Out: 5, Flight: 100}, false},

		{"Out far below 0", api.Prr{Given: 20, Out: math.MinInt, Flight: 100}, false},
		{"Out -1", api.Prr{Given: 20, Out: -1, Flight: 100}, false},
		{"Out 0", api.Prr{Given: 20, Out: 0, Flight: 100}, true},
		{"Out one below MaxOffset", api.Prr{Given: 20, Out: top - 1, Flight: 100}, true},
		{"Out at MaxOffset", api.Prr{Given: 20, Out: top, Flight: 100}, true},
		{"Out one past MaxOffset", api.Prr{Given: 20, Out: top + 1, Flight: 100}, false},
		{"Out far past MaxOffset", api.Prr{Given: 20, Out: math.MaxInt, Flight: 100}, false},

		{"Flight far below 0", api.Prr{Given: 20, Out: 5, Flight: math.MinInt}, false},
		{"Flight -1", api.Prr{Given: 20, Out: 5, Flight: -1}, false},
		{"Flight 0", api.Prr{Given: 20, Out: 5, Flight: 0}, false},
		{"Flight 1", api.Prr{Given: 20, Out: 5, Flight: 1}, true},
		{"Flight one below MaxSize", api.Prr{Given: 20, Out: 5, Flight: size - 1}, true},
		{"Flight at MaxSize", api.Prr{Given: 20, Out: 5, Flight: size}, true},
		{"Flight one past MaxSize", api.Prr{Given: 20, Out: 5, Flight: size + 1}, false},
		{"Flight at MaxOffset", api.Prr{Given: 20, Out: 5, Flight: top}, false},
		{"Flight far past MaxSize", api.Prr{Given: 20, Out: 5, Flight: math.MaxInt}, false},

		{"all greatest", api.Prr{Given: top, Out: top, Flight: size}, true},
		{"all one past", api.Prr{Given: top + 1, Out: top + 1, Flight: size + 1}, false},
		{"all far below 0", api.Prr{Given: math.MinInt, Out: math.MinInt, Flight: math.MinInt}, false},
		{"all far past", api.Prr{Given: math.MaxInt, Out: math.MaxInt, Flight: math.MaxInt}, false},
	}
}

func TestCheck(t *testing.T) {
	for _, c := range states() {
		want := api.ErrState
		if c.may {
			want = api.OK
		}
		if got := prr.Check(c.p); got != want {
			t.Errorf("%s: Check(%+v) = %d, want %d", c.name, c.p, got, want)
		}
	}
}

// R2: the state is named ahead of the arguments, be they right or wrong.
func TestOthersAreRefused(t *testing.T) {
	for _, c := range states() {
		if c.may {
			got, _, e := prr.Given(c.p, 5, 5, 5, 5, false)
			fine(t, c.name+": Given", e)
			fine(t, c.name+": what Given answers", prr.Check(got))
			got, e = prr.Sent(c.p, 5)
			fine(t, c.name+": Sent", e)
			fine(t, c.name+": what Sent answers", prr.Check(got))
			continue
		}
		for _, n := range []int{math.MinInt, -1, 0, 1, size, size + 1, math.MaxInt} {
			for _, safe := range []bool{false, true} {
				for _, other := range []int{-1, 0, 1, math.MaxInt} {
					got, may, e := prr.Given(c.p, n, other, 5, 5, safe)
					refused(t, c.name+": Given", got, may, e, api.ErrState)
					got, may, e = prr.Given(c.p, n, 5, other, 5, safe)
					refused(t, c.name+": Given", got, may, e, api.ErrState)
					got, may, e = prr.Given(c.p, n, 5, 5, other, safe)
					refused(t, c.name+": Given", got, may, e, api.ErrState)
					got, may, e = prr.Given(c.p, n, other, other, other, safe)
					refused(t, c.name+": Given", got, may, e, api.ErrState)
				}
			}
			got, e := prr.Sent(c.p, n)
			refused(t, c.name+": Sent", got, 0, e, api.ErrState)
		}
	}
}

// P14.1: Begin

func TestBegin(t *testing.T) {
	for _, c := range []struct{ flight, want int }{
		{0, 1}, {1, 1}, {2, 2}, {100, 100}, {size / 2, size / 2}, {size - 1, size - 1}, {size, size},
	} {
		got, e := prr.Begin(c.flight)
		is(t, "Begin", got, e, api.Prr{Flight: c.want})
		fine(t, "what is answered", prr.Check(got))
	}
}

func TestBeginRefuses(t *testing.T) {
	for _, flight := range []int{math.MinInt, -size, -2, -1, size + 1, size + 2, 2 * size, top, math.MaxInt} {
		got, e := prr.Begin(flight)
		refused(t, "Begin", got, 0, e, api.ErrArg)
	}
}

// P14.2: Given

// call is a call of Given that goes well, and what it must answer.
type call struct {
	name                   string
	given, out, flight     int
	n, pipe, ssthresh, mss int
	safe                   bool
	wantGiven, want        int
}

// ask asks each call, and that it changes Given alone.
func ask(t *testing.T, calls []call) {
	t.Helper()
	for _, c := range calls {
		p := api.Prr{Given: c.given, Out: c.out, Flight: c.flight}
		got, may, e := prr.Given(p, c.n, c.pipe, c.ssthresh, c.mss, c.safe)
		is(t, c.name, got, e, api.Prr{Given: c.wantGiven, Out: c.out, Flight: c.flight})
		if may != c.want {
			t.Errorf("%s: %d, want %d", c.name, may, c.want)
		}
		fine(t, c.name+": what is answered", prr.Check(got))
	}
}

func TestGivenAbove(t *testing.T) {
	ask(t, []call{
		{"ordinary", 10, 5, 100, 10, 85, 50, 4, false, 20, 5},
		{"safe changes nothing", 10, 5, 100, 10, 85, 50, 4, true, 20, 5},
		{"n 0", 20, 5, 100, 0, 85, 50, 4, false, 20, 5},
		{"n counts once", 0, 1, 100, 30, 85, 50, 4, false, 30, 14},

		{"Flight divides", 9, 2, 10, 3, 90, 5, 1, false, 12, 4},
		{"one more than Flight divides", 9, 2, 10, 4, 90, 5, 1, false, 13, 5},
		{"one left over", 6, 1, 10, 1, 90, 3, 1, false, 7, 2},
		{"one short", 0, 1, 10, 3, 90, 3, 1, false, 3, 0},
		{"half left over", 0, 1, 10, 5, 90, 3, 1, false, 5, 1},
		{"nine tenths left over", 0, 1, 10, 13, 90, 3, 1, false, 13, 3},
		{"the least share", 0, 1, size, 1, 2, 1, 1, false, 1, 0},
		{"Flight just divides", 0, 1, 7, 14, 90, 3, 1, false, 14, 5},
		{"a seventh more", 0, 1, 7, 15, 90, 3, 1, false, 15, 6},
		{"Flight 1", 10, 5, 1, 10, 90, 3, 1, false, 20, 55},
		{"ssthresh above Flight", 10, 5, 2, 10, 90, 3, 1, false, 20, 25},
		{"ssthresh at Flight", 10, 5, 3, 10, 90, 3, 1, false, 20, 15},
		{"ssthresh 0", 10, 5, 100, 10, 90, 0, 4, false, 20, 0},
		{"ssthresh 0, pipe 1", 10, 5, 100, 10, 1, 0, 4, false, 20, 0},
		{"nothing was given", 0, 5, 100, 0, 90, 50, 4, false, 0, 0},

		{"Out one below the share", 10, 9, 100, 10, 90, 50, 4, false, 20, 1},
		{"Out at the share", 10, 10, 100, 10, 90, 50, 4, false, 20, 0},
		{"Out one above the share", 10, 11, 100, 10, 90, 50, 4, false, 20, 0},
		{"Out far above the share", 10, top, 100, 10, 90, 50, 4, false, 20, 0},
		{"Out one below the share, upwards", 10, 10, 100, 11, 90, 50, 4, false, 21, 1},
		{"Out at the share, upwards", 10, 11, 100, 11, 90, 50, 4, false, 21, 0},
	})
}

// What has no room in an int ahead of the quotient, or behind it.
func TestGivenAboveGreatest(t *testing.T) {
	ask(t, []call{
		{"Given greatest", top, 1, size, 5, size, size - 1, 1, false, top, top - 1<<20 - 1},
		{"Given and Flight", top, 1, size, 0, size, 1, 1, false, top, 1048575},
		{"Flight one less", top, 1, size - 1, 0, size, 1, 1, false, top, 1048576},
		{"Flight one less, ssthresh alike", top, 1, size - 1, 0, size, size - 1, 1, false, top, top - 1},
		{"Flight one more than ssthresh", top - 1, 1, size - 1, 0, size, size - 2, 1, false, top - 1, top - 1<<20 - 2},
		{"the least that is left over", top, 1, size - 1, 0, size, size / 2, 1, false, top, 1<<49 + 1<<19},
		{"Out at MaxOffset", top, top, size, 0, size, size - 1, 1, false, top, 0},
		{"Out one below the share", top, top - 1<<20 - 1, size, 0, size, size - 1, 1, false, top, 1},
		{"Out at the share", top, top - 1<<20, size, 0, size, size - 1, 1, false, top, 0},
		{"just within an int", top, 1, 1 << 17, 0, size, size - 1, 1, false, top, math.MaxInt - 1<<33},
		{"just within an int, upwards", top - 1, 1, 1 << 17, 0, size, size - 1, 1, false, top - 1, math.MaxInt - 1<<33 - 8191},
		{"beyond an int", top, 1, 1, 0, size, size - 1, 1, false, top, math.MaxInt - 1},
		{"beyond an int, upwards", top - 1, 1, 7, 0, size, size - 1, 1, false, top - 1, math.MaxInt - 1},
		{"beyond an int, Out 0", top, 0, 1, 0, size, size - 1, 1, false, top, math.MaxInt},
		{"beyond an int, upwards, Out 0", top - 1, 0, 7, 0, size, size - 1, 1, false, top - 1, math.MaxInt},
	})
}

func TestGivenAbout(t *testing.T) {
	ask(t, []call{
		{"pipe one above ssthresh", 10, 5, 100, 10, 51, 50, 4, false, 20, 5},
		{"pipe one above ssthresh, safe", 10, 5, 100, 10, 51, 50, 4, true, 20, 5},
		{"pipe at ssthresh", 10, 5, 100, 10, 50, 50, 4, false, 20, 0},
		{"pipe at ssthresh, safe", 10, 5, 100, 10, 50, 50, 4, true, 20, 0},
		{"pipe one below ssthresh", 10, 5, 100, 10, 49, 50, 4, false, 20, 1},
		{"pipe one below ssthresh, safe", 10, 5, 100, 10, 49, 50, 4, true, 20, 1},
		{"both 0", 10, 5, 100, 10, 0, 0, 4, true, 20, 0},
		{"pipe 1, ssthresh 0", 10, 1, 1, 10, 1, 0, 4, true, 20, 0},
		{"pipe 0, ssthresh 1", 10, 5, 100, 10, 0, 1, 4, true, 20, 1},
		{"both at MaxSize", 10, 5, 100, 10, size, size, 4, true, 20, 0},
	})
}

func TestGivenBelow(t *testing.T) {
	ask(t, []call{
		{"Given less Out below n", 10, 15, 100, 10, 20, 50, 4, false, 20, 10},
		{"Given less Out one below n", 10, 11, 100, 10, 20, 50, 4, false, 20, 10},
		{"Given less Out at n", 10, 10, 100, 10, 20, 50, 4, false, 20, 10},
		{"Given less Out one above n", 10, 9, 100, 10, 20, 50, 4, false, 20, 11},
		{"Given less Out above n", 10, 5, 100, 10, 20, 50, 4, false, 20, 15},
		{"Given less Out below 0", 10, 30, 100, 10, 20, 50, 4, false, 20, 10},
		{"Given less Out below 0, n 0", 10, 30, 100, 0, 20, 50, 4, false, 10, 0},
		{"Given less Out far below 0, n 0", 10, top, 100, 0, 20, 50, 4, false, 10, 0},
		{"n 0", 10, 5, 100, 0, 20, 50, 4, false, 10, 5},

		{"safe, Given less Out below n", 10, 15, 100, 10, 20, 50, 4, true, 20, 14},
		{"safe, Given less Out one below n", 10, 11, 100, 10, 20, 50, 4, true, 20, 14},
		{"safe, Given less Out at n", 10, 10, 100, 10, 20, 50, 4, true, 20, 14},
		{"safe, Given less Out one above n", 10, 9, 100, 10, 20, 50, 4, true, 20, 15},
		{"safe, Given less Out above n", 10, 5, 100, 10, 20, 50, 4, true, 20, 19},
		{"safe, Given less Out below 0, n 0", 10, 30, 100, 0, 20, 50, 4, true, 10, 4},
		{"safe, mss 1", 10, 5, 100, 10, 20, 50, 1, true, 20, 16},
		{"safe, mss MaxMss", 10, 5, 100, 10, 20, 70000, api.MaxMss, true, 20, api.MaxMss + 15},

		{"ssthresh less pipe one above", 10, 5, 100, 10, 20, 36, 4, false, 20, 15},
		{"ssthresh less pipe alike", 10, 5, 100, 10, 20, 35, 4, false, 20, 15},
		{"ssthresh less pipe one below", 10, 5, 100, 10, 20, 34, 4, false, 20, 14},
		{"ssthresh less pipe below, n the greater", 10, 15, 100, 10, 20, 29, 4, false, 20, 9},
		{"safe, ssthresh less pipe one above", 10, 5, 100, 10, 20, 40, 4, true, 20, 19},
		{"safe, ssthresh less pipe alike", 10, 5, 100, 10, 20, 39, 4, true, 20, 19},
		{"safe, ssthresh less pipe one below", 10, 5, 100, 10, 20, 38, 4, true, 20, 18},
		{"safe, ssthresh less pipe is less than without", 10, 5, 100, 10, 20, 34, 4, true, 20, 14},
		{"safe, ssthresh less pipe below, n the greater", 10, 15, 100, 10, 20, 33, 4, true, 20, 13},

		{"Flight counts for nothing", 10, 5, 1, 10, 20, 50, 4, false, 20, 15},
		{"Flight is greatest", 10, 5, size, 10, 20, 50, 4, false, 20, 15},
		{"all greatest", top, 1, size, size, 0, size, api.MaxMss, true, top, size},
		{"n greatest, Out too", top, top, size, size, 0, size, 1, false, top, size},
		{"n one less, Out greatest, safe", top, top, size, size - 2, 0, size, 1, true, top, size - 1},
	})
}

func TestGivenFirst(t *testing.T) {
	ask(t, []call{
		{"above, less than mss", 0, 0, 100, 6, 90, 50, 4, false, 6, 4},
		{"above, mss", 0, 0, 100, 8, 90, 50, 4, false, 8, 4},
		{"above, one more than mss", 0, 0, 100, 9, 90, 50, 4, false, 9, 5},
		{"above, nothing given", 0, 0, 100, 0, 90, 50, 4, false, 0, 4},
		{"above, ssthresh 0", 0, 0, 100, 6, 90, 0, 4, false, 6, 4},
		{"above, Out 1, less than mss", 0, 1, 100, 6, 90, 50, 4, false, 6, 2},
		{"above, Out 1, one less than mss", 0, 1, 100, 8, 90, 50, 4, false, 8, 3},
		{"above, Out 1, mss", 0, 1, 100, 10, 90, 50, 4, false, 10, 4},
		{"above, Out 1, one more than mss", 0, 1, 100, 12, 90, 50, 4, false, 12, 5},
		{"above, Out 1, nothing given", 0, 1, 100, 0, 90, 50, 4, false, 0, 0},

		{"below, ssthresh less pipe less than mss", 0, 0, 100, 6, 47, 50, 4, false, 6, 4},
		{"below, ssthresh less pipe mss", 0, 0, 100, 6, 46, 50, 4, false, 6, 4},
		{"below, ssthresh less pipe one more", 0, 0, 100, 6, 45, 50, 4, false, 6, 5},
		{"below, pipe at ssthresh", 0, 0, 100, 6, 50, 50, 4, false, 6, 4},
		{"below, pipe at ssthresh, safe", 0, 0, 100, 6, 50, 50, 4, true, 6, 4},
		{"below, n less than mss", 0, 0, 100, 3, 20, 50, 4, false, 3, 4},
		{"below, n mss", 0, 0, 100, 4, 20, 50, 4, false, 4, 4},
		{"below, n one more", 0, 0, 100, 5, 20, 50, 4, false, 5, 5},
		{"below, n less than mss, safe", 0, 0, 100, 3, 20, 50, 4, true, 3, 7},
		{"below, nothing given", 0, 0, 100, 0, 20, 50, 4, false, 0, 4},
		{"below, nothing given, safe", 0, 0, 100, 0, 20, 50, 4, true, 0, 4},
		{"below, Out 1, n less than mss", 0, 1, 100, 3, 20, 50, 4, false, 3, 3},
		{"below, Out 1, n mss", 0, 1, 100, 4, 20, 50, 4, false, 4, 4},
		{"below, Out 1, n one more", 0, 1, 100, 5, 20, 50, 4, false, 5, 5},
		{"below, Out 1, nothing given", 0, 1, 100, 0, 20, 50, 4, false, 0, 0},
		{"below, Out 1, pipe at ssthresh", 0, 1, 100, 6, 50, 50, 4, false, 6, 0},

		{"mss 1", 0, 0, 100, 0, 90, 50, 1, false, 0, 1},
		{"mss MaxMss", 0, 0, 100, 0, 90, 50, api.MaxMss, false, 0, api.MaxMss},
		{"mss above ssthresh", 0, 0, 100, 10, 20, 50, 60, false, 10, 60},
	})
}

func TestGivenAtMostMaxOffset(t *testing.T) {
	ask(t, []call{
		{"one below MaxOffset", top - 11, 5, size, 10, 90, 0, 4, false, top - 1, 0},
		{"at MaxOffset", top - 10, 5, size, 10, 90, 0, 4, false, top, 0},
		{"one past MaxOffset", top - 9, 5, size, 10, 90, 0, 4, false, top, 0},
		{"MaxSize past MaxOffset", top, 5, size, size, 90, 0, 4, false, top, 0},
		{"from there, 0 more", top, 5, size, 0, 90, 0, 4, false, top, 0},

		// What is counted is Given as it is behind the call: of an ssthresh of 2^20 a thousandth of it.
		{"the share, one below MaxOffset", top - 1025, 5, size, 1024, size, 1 << 20, 4, false, top - 1, 1<<40 - 5},
		{"the share, 1024 below MaxOffset", top - 2048, 5, size, 1024, size, 1 << 20, 4, false, top - 1024, 1<<40 - 6},
		{"the share, at MaxOffset", top - 1024, 5, size, 1024, size, 1 << 20, 4, false, top, 1<<40 - 5},
		{"the share, past MaxOffset", top - 1024, 5, size, 4096, size, 1 << 20, 4, false, top, 1<<40 - 5},
		{"less Out, one below MaxOffset", top - 11, top - 50, size, 10, 0, size, 4, false, top - 1, 49},
		{"less Out, at MaxOffset", top - 10, top - 50, size, 10, 0, size, 4, false, top, 50},
		{"less Out, past MaxOffset", top - 9, top - 50, size, 10, 0, size, 4, false, top, 50},
		{"n stays what it is", top, top - 50, size, 60, 0, size, 4, false, top, 60},
	})
}

func TestGivenArguments(t *testing.T) {
	p := api.Prr{Given: 20, Out: 5, Flight: 100}
	for _, safe := range []bool{false, true} {
		for _, x := range []int{math.MinInt, -size, -1, size + 1, top, math.MaxInt} {
			got, may, e := prr.Given(p, x, 90, 50, 4, safe)
			refused(t, "n", got, may, e, api.ErrArg)
			got, may, e = prr.Given(p, 10, x, 50, 4, safe)
			refused(t, "pipe", got, may, e, api.ErrArg)
			got, may, e = prr.Given(p, 10, 90, x, 4, safe)
			refused(t, "ssthresh", got, may, e, api.ErrArg)
			got, may, e = prr.Given(p, x, x, x, x, safe)
			refused(t, "all", got, may, e, api.ErrArg)
		}
		for _, x := range []int{0, 1, size - 1, size} {
			_, _, e := prr.Given(p, x, 90, 50, 4, safe)
			fine(t, "n", e)
			_, _, e = prr.Given(p, 10, x, 50, 4, safe)
			fine(t, "pipe", e)
			_, _, e = prr.Given(p, 10, 90, x, 4, safe)
			fine(t, "ssthresh", e)
		}
		for _, x := range []int{math.MinInt, -1, 0, api.MaxMss + 1, size, math.MaxInt} {
			got, may, e := prr.Given(p, 10, 90, 50, x, safe)
			refused(t, "mss", got, may, e, api.ErrArg)
		}
		for _, x := range []int{1, 2, api.MinMss, api.MaxMss - 1, api.MaxMss} {
			_, _, e := prr.Given(p, 10, 90, 50, x, safe)
			fine(t, "mss", e)
		}
	}
}

// P14.2: Sent

func TestSent(t *testing.T) {
	for _, c := range []struct {
		name         string
		out, n, want int
	}{
		{"ordinary", 5, 10, 15},
		{"0", 5, 0, 5},
		{"0 of 0", 0, 0, 0},
		{"1", 5, 1, 6},
		{"the first", 0, 10, 10},
		{"one below MaxSize", 5, size - 1, size + 4},
		{"MaxSize", 5, size, size + 5},
		{"one below MaxOffset", top - 11, 10, top - 1},
		{"at MaxOffset", top - 10, 10, top},
		{"one past MaxOffset", top - 9, 10, top},
		{"MaxSize past MaxOffset", top, size, top},
		{"from MaxOffset, 0 more", top, 0, top},
		{"one below MaxOffset, by MaxSize", top - size - 1, size, top - 1},
		{"at MaxOffset, by MaxSize", top - size, size, top},
		{"one past MaxOffset, by MaxSize", top - size + 1, size, top},
	} {
		for _, given := range []int{0, 1, 20, top} {
			for _, flight := range []int{1, 100, size} {
				got, e := prr.Sent(api.Prr{Given: given, Out: c.out, Flight: flight}, c.n)
				is(t, c.name, got, e, api.Prr{Given: given, Out: c.want, Flight: flight})
				fine(t, c.name+": what is answered", prr.Check(got))
			}
		}
	}
}

func TestSentRefuses(t *testing.T) {
	for _, p := range []api.Prr{{Flight: 1}, {Given: 20, Out: 5, Flight: 100}, {Given: top, Out: top, Flight: size}} {
		for _, n := range []int{math.MinInt, -size, -5, -1, size + 1, size + 2, top, math.MaxInt} {
			got, e := prr.Sent(p, n)
			refused(t, "Sent", got, 0, e, api.ErrArg)
		}
	}
}
