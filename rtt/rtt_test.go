package rtt_test

import (
	"math"
	"testing"

	"tideway/api"
	"tideway/rtt"
)

const top = api.MaxTime

// fine asks that a call went well.
func fine(t *testing.T, name string, e api.Errno) {
	t.Helper()
	if e != api.OK {
		t.Errorf("%s: error %d", name, e)
	}
}

// is asks that an estimator is the wanted one, and that there was no error.
func is(t *testing.T, name string, got api.Rtt, e api.Errno, want api.Rtt) {
	t.Helper()
	if e != api.OK || got != want {
		t.Errorf("%s: %+v, %d, want %+v", name, got, e, want)
	}
}

// refused asks that a call answered an error, and nothing besides.
func refused(t *testing.T, name string, got api.Rtt, e api.Errno, want api.Errno) {
	t.Helper()
	if e != want || got != (api.Rtt{}) {
		t.Errorf("%s: %+v, %d, want error %d", name, got, e, want)
	}
}

// fresh answers New's estimator.
func fresh(t *testing.T, low, high int) api.Rtt {
	t.Helper()
	r, e := rtt.New(low, high)
	if e != api.OK {
		t.Fatalf("New(%d, %d): error %d", low, high, e)
	}
	return r
}

// The chapter's example.
func TestExample(t *testing.T) {
	r, e := rtt.New(200000, 60000000)
	is(t, "New", r, e, api.Rtt{Rto: 1000000, Low: 200000, High: 60000000})
	r, e = rtt.Sample(r, 100000)
	is(t, "Sample", r, e, api.Rtt{Srtt: 100000, Var: 50000, Rto: 300000, Low: 200000, High: 60000000})
	r, e = rtt.Back(r)
	is(t, "Back", r, e, api.Rtt{Srtt: 100000, Var: 50000, Rto: 600000, Low: 200000, High: 60000000})
}

// P11.1: Check

// states are estimators, and whether they may be.
func states() []struct {
	name string
	r    api.Rtt
	may  bool
} {
	return []struct {
		name string
		r    api.Rtt
		may  bool
	}{
		{"ordinary", api.Rtt{Srtt: 100000, Var: 50000, Rto: 300000, Low: 200000, High: 60000000}, true},
		{"without a sample", api.Rtt{Rto: 1000000, Low: 200000, High: 60000000}, true},
		{"the zero value", api.Rtt{}, false},

		{"Low far below 0", api.Rtt{Rto: 5, Low: math.MinInt, High: 9}, false},
		{"Low -1", api.Rtt{Rto: 5, Low: -1, High: 9}, false},
		{"Low 0", api.Rtt{Rto: 5, Low: 0, High: 9}, false},
		{"Low 0, Rto 0", api.Rtt{Rto: 0, Low: 0, High: 9}, false},
		{"Low 1", api.Rtt{Rto: 5, Low: 1, High: 9}, true},
		{"Low one below High", api.Rtt{Rto: 9, Low: 8, High: 9}, true},
		{"Low at High", api.Rtt{Rto: 9, Low: 9, High: 9}, true},
		{"Low one above High, Rto at Low", api.Rtt{Rto: 10, Low: 10, High: 9}, false},
		{"Low one above High, Rto at High", api.Rtt{Rto: 9, Low: 10, High: 9}, false},
		{"Low far above High", api.Rtt{Rto: 9, Low: math.MaxInt, High: 9}, false},

		{"High far below 0", api.Rtt{Rto: 1, Low: 1, High: math.MinInt}, false},
		{"High 0", api.Rtt{Rto: 1, Low: 1, High: 0}, false},
		{"High 0, Low and Rto too", api.Rtt{Srtt: 5, Var: 5}, false},
		{"High 1", api.Rtt{Rto: 1, Low: 1, High: 1}, true},
		{"all below 0", api.Rtt{Rto: -4, Low: -5, High: -3}, false},
		{"High one below MaxTime", api.Rtt{Rto: 5, Low: 1, High: top - 1}, true},
		{"High at MaxTime", api.Rtt{Rto: 5, Low: 1, High: top}, true},
		{"High at MaxTime, Low and Rto too", api.Rtt{Rto: top, Low: top, High: top}, true},
		{"High one past MaxTime", api.Rtt{Rto: 5, Low: 1, High: top + 1}, false},
		{"High one past MaxTime, Low and Rto too", api.Rtt{Rto: top + 1, Low: top + 1, High: top + 1}, false},
		{"High far past MaxTime", api.Rtt{Rto: 5, Low: 1, High: math.MaxInt}, false},

		{"Rto far below 0", api.Rtt{Rto: math.MinInt, Low: 5, High: 9}, false},
		{"Rto 0", api.Rtt{Rto: 0, Low: 5, High: 9}, false},
		{"Rto one below Low", api.Rtt{Rto: 4, Low: 5, High: 9}, false},
		{"Rto at Low", api.Rtt{Rto: 5, Low: 5, High: 9}, true},
		{"Rto between", api.Rtt{Rto: 7, Low: 5, High: 9}, true},
		{"Rto at High", api.Rtt{Rto: 9, Low: 5, High: 9}, true},
		{"Rto one above High", api.Rtt{Rto: 10, Low: 5, High: 9}, false},
		{"Rto far above High", api.Rtt{Rto: math.MaxInt, Low: 5, High: 9}, false},

		{"Srtt far below 0", api.Rtt{Srtt: math.MinInt, Rto: 7, Low: 5, High: 9}, false},
		{"Srtt -1", api.Rtt{Srtt: -1, Rto: 7, Low: 5, High: 9}, false},
		{"Srtt 1", api.Rtt{Srtt: 1, Rto: 7, Low: 5, High: 9}, true},
		{"Srtt above High", api.Rtt{Srtt: 10, Rto: 7, Low: 5, High: 9}, true},
		{"Srtt at MaxTime", api.Rtt{Srtt: top, Rto: 7, Low: 5, High: 9}, true},
		{"Srtt one past MaxTime", api.Rtt{Srtt: top + 1, Rto: 7, Low: 5, High: 9}, false},
		{"Srtt far past MaxTime", api.Rtt{Srtt: math.MaxInt, Rto: 7, Low: 5, High: 9}, false},

		{"Var far below 0", api.Rtt{Srtt: 6, Var: math.MinInt, Rto: 7, Low: 5, High: 9}, false},
		{"Var -1", api.Rtt{Srtt: 6, Var: -1, Rto: 7, Low: 5, High: 9}, false},
		{"Var 0", api.Rtt{Srtt: 6, Var: 0, Rto: 7, Low: 5, High: 9}, true},
		{"Var above Srtt", api.Rtt{Srtt: 6, Var: 60, Rto: 7, Low: 5, High: 9}, true},
		{"Var without Srtt", api.Rtt{Var: 60, Rto: 7, Low: 5, High: 9}, true},
		{"Var at MaxTime", api.Rtt{Srtt: 6, Var: top, Rto: 7, Low: 5, High: 9}, true},
		{"Var one past MaxTime", api.Rtt{Srtt: 6, Var: top + 1, Rto: 7, Low: 5, High: 9}, false},
		{"Var far past MaxTime", api.Rtt{Srtt: 6, Var: math.MaxInt, Rto: 7, Low: 5, High: 9}, false},

		{"all at MaxTime", api.Rtt{Srtt: top, Var: top, Rto: top, Low: top, High: top}, true},
		{"all least", api.Rtt{Rto: 1, Low: 1, High: 1}, true},
		{"all far below 0", api.Rtt{Srtt: math.MinInt, Var: math.MinInt, Rto: math.MinInt, Low: math.MinInt, High: math.MinInt}, false},
		{"all far above", api.Rtt{Srtt: math.MaxInt, Var: math.MaxInt, Rto: math.MaxInt, Low: math.MaxInt, High: math.MaxInt}, false},
	}
}

func TestCheck(t *testing.T) {
	for _, c := range states() {
		want := api.ErrState
		if c.may {
			want = api.OK
		}
		if got := rtt.Check(c.r); got != want {
			t.Errorf("%s: Check(%+v) = %d, want %d", c.name, c.r, got, want)
		}
	}
}

func TestOthersAreRefused(t *testing.T) {
	for _, c := range states() {
		before := c.r
		got, e := rtt.Back(c.r)
		answersAsCheck(t, c.name+": Back", c.may, got, e)
		got, e = rtt.Calm(c.r)
		answersAsCheck(t, c.name+": Calm", c.may, got, e)
		got, e = rtt.Sample(c.r, 5)
		answersAsCheck(t, c.name+": Sample", c.may, got, e)
		if c.r != before {
			t.Errorf("%s: what was handed in is now %+v, was %+v", c.name, c.r, before)
		}
	}
}

// answersAsCheck asks that a call refuses an estimator that may not be, and takes another.
func answersAsCheck(t *testing.T, name string, may bool, got api.Rtt, e api.Errno) {
	t.Helper()
	if !may {
		refused(t, name, got, e, api.ErrState)
		return
	}
	fine(t, name, e)
	fine(t, name+": what is answered", rtt.Check(got))
}

// R2: the state is named ahead of the argument.
func TestStateAheadOfArgument(t *testing.T) {
	for _, at := range []int{math.MinInt, -1, 0, top + 1, math.MaxInt} {
		got, e := rtt.Sample(api.Rtt{}, at)
		refused(t, "Sample of none", got, e, api.ErrState)
		got, e = rtt.Sample(api.Rtt{Rto: 10, Low: 5, High: 9}, at)
		refused(t, "Sample of one that may not be", got, e, api.ErrState)
	}
}

// P11.1: New

func TestNew(t *testing.T) {
	for _, c := range []struct {
		name           string
		low, high, rto int
	}{
		{"1000000 between", 200000, 60000000, 1000000},
		{"1000000 one above low", 999999, 60000000, 1000000},
		{"1000000 at low", 1000000, 60000000, 1000000},
		{"1000000 one below low", 1000001, 60000000, 1000001},
		{"1000000 far below low", top - 1, top, top - 1},
		{"1000000 one below high", 1, 1000001, 1000000},
		{"1000000 at high", 1, 1000000, 1000000},
		{"1000000 one above high", 1, 999999, 999999},
		{"1000000 far above high", 2, 3, 3},
		{"1000000 alone", 1000000, 1000000, 1000000},
		{"low 1", 1, 60000000, 1000000},
		{"low one below high", 6, 7, 7},
		{"low at high, below 1000000", 7, 7, 7},
		{"low at high, above 1000000", 7000000, 7000000, 7000000},
		{"both 1", 1, 1, 1},
		{"high one below MaxTime", 200000, top - 1, 1000000},
		{"high at MaxTime", 200000, top, 1000000},
		{"from end to end", 1, top, 1000000},
		{"both at MaxTime", top, top, top},
	} {
		r, e := rtt.New(c.low, c.high)
		is(t, c.name, r, e, api.Rtt{Rto: c.rto, Low: c.low, High: c.high})
		fine(t, c.name+": what is answered", rtt.Check(r))
	}
}

func TestNewRefuses(t *testing.T) {
	for _, c := range []struct {
		name      string
		low, high int
	}{
		{"low 0", 0, 9},
		{"low 0, with 1000000 between", 0, 60000000},
		{"low -1", -1, 9},
		{"low far below 0", math.MinInt, 9},
		{"both 0", 0, 0},
		{"both -1", -1, -1},
		{"both far below 0", math.MinInt, math.MinInt},
		{"high 0", 1, 0},
		{"high far below 0", 1, math.MinInt},
		{"low one above high", 10, 9},
		{"low one above high, both above 1000000", 2000001, 2000000},
		{"low one above high, with 1000000 at high", 1000001, 1000000},
		{"low far above high", math.MaxInt, 9},
		{"low above MaxTime, high at it", top + 1, top},
		{"high one past MaxTime", 1, top + 1},
		{"both one past MaxTime", top + 1, top + 1},
		{"high far past MaxTime", 1, math.MaxInt},
		{"both far past MaxTime", math.MaxInt, math.MaxInt},
		{"far below and far above", math.MinInt, math.MaxInt},
		{"far above and far below", math.MaxInt, math.MinInt},
	} {
		r, e := rtt.New(c.low, c.high)
		refused(t, c.name, r, e, api.ErrArg)
	}
}

// P11.2: Sample

func TestFirstSample(t *testing.T) {
	for _, c := range []struct {
		name            string
		t, vari, rto    int
		low, high, back int
	}{
		{"ordinary", 100000, 50000, 300000, 200000, 60000000, 0},
		{"1", 1, 0, 1001, 1, 60000000, 0},
		{"2", 2, 1, 1002, 1, 60000000, 0},
		{"odd", 3, 1, 1003, 1, 60000000, 0},
		{"odd and large", 100001, 50000, 300001, 200000, 60000000, 0},
		{"behind backing off", 100000, 50000, 300000, 200000, 60000000, 3},
		{"fourfold Var one step below 1000", 499, 249, 1499, 1, 60000000, 0},
		{"fourfold Var at 1000", 500, 250, 1500, 1, 60000000, 0},
		{"fourfold Var at 1000, t odd", 501, 250, 1501, 1, 60000000, 0},
		{"fourfold Var above 1000", 502, 251, 1506, 1, 60000000, 0},
		{"Rto below Low", 100, 50, 200000, 200000, 60000000, 0},
		{"Rto one below Low", 100000, 50000, 300001, 300001, 60000000, 0},
		{"Rto at Low", 100000, 50000, 300000, 300000, 60000000, 0},
		{"Rto at High", 100000, 50000, 300000, 1, 300000, 0},
		{"Rto one above High", 100000, 50000, 299999, 1, 299999, 0},
		{"Rto far above High", 60000000, 30000000, 3, 2, 3, 0},
		{"MaxTime", top, top / 2, top, 1, top, 0},
		{"one below MaxTime", top - 1, top/2 - 1, top, 1, top, 0},
		{"a third of MaxTime", 333333333333333, 166666666666666, 333333333333333 + 4*166666666666666, 1, top, 0},
	} {
		r := fresh(t, c.low, c.high)
		for range c.back {
			r, _ = rtt.Back(r)
		}
		got, e := rtt.Sample(r, c.t)
		is(t, c.name, got, e, api.Rtt{Srtt: c.t, Var: c.vari, Rto: c.rto, Low: c.low, High: c.high})
	}
}

// What Var was counts for nothing where there was no sample.
func TestFirstSampleWithVar(t *testing.T) {
	got, e := rtt.Sample(api.Rtt{Var: 777, Rto: 5, Low: 1, High: 9000}, 100)
	is(t, "Var ahead of a sample", got, e, api.Rtt{Srtt: 100, Var: 50, Rto: 1100, Low: 1, High: 9000})
}

func TestNextSample(t *testing.T) {
	for _, c := range []struct {
		name              string
		srtt, vari, t     int
		wantSrtt, wantVar int
		rto               int
	}{
		{"at Srtt", 80000, 4000, 80000, 80000, 3000, 92000},
		{"below Srtt", 80000, 4000, 72000, 79000, 5000, 99000},
		{"above Srtt", 80000, 4000, 88000, 81000, 5000, 101000},
		{"one below Srtt", 80000, 4000, 79999, 79999, 3000, 91999},
		{"one above Srtt", 80000, 4000, 80001, 80000, 3000, 92000},
		{"eight above Srtt", 80000, 4000, 80008, 80001, 3002, 92009},
		{"far below Srtt", 80000, 0, 1, 70000, 19999, 149996},
		{"far above Srtt", 1, 0, 80000, 10000, 19999, 89996},
		{"neither quotient whole", 10, 7, 13, 10, 6, 1010},
		{"Srtt seven eighths over", 9, 0, 16, 9, 1, 1009},
		{"Srtt just whole", 9, 0, 17, 10, 2, 1010},
		{"Var three quarters over", 1003, 1, 1003, 1003, 0, 2003},
		{"Var just whole", 1003, 1, 1004, 1003, 1, 2003},
		{"Var by the difference alone", 1003, 0, 1000, 1002, 0, 2002},
		{"Var by the difference alone, whole", 1003, 0, 999, 1002, 1, 2002},
		{"Srtt 1, t 1", 1, 0, 1, 1, 0, 1001},
		{"Srtt 1, t 1, with Var", 1, 5, 1, 1, 3, 1001},
		{"Srtt 2, t 1", 2, 0, 1, 1, 0, 1001},
		{"Srtt 1, t 2", 1, 0, 2, 1, 0, 1001},
		{"Srtt 1, t 9", 1, 0, 9, 2, 2, 1002},
		{"fourfold Var below 1000", 5000, 332, 5000, 5000, 249, 6000},
		{"fourfold Var at 1000", 5000, 334, 5000, 5000, 250, 6000},
		{"fourfold Var above 1000", 5000, 335, 5000, 5000, 251, 6004},
		{"both at MaxTime, t too", top, top, top, top, top * 3 / 4, top},
		{"both at MaxTime, t 1", top, top, 1, (7*top + 1) / 8, top - 1, top},
		{"Srtt 1, Var at MaxTime, t at MaxTime", 1, top, top, (7 + top) / 8, top - 1, top},
		{"Srtt at MaxTime, Var 0", top, 0, top, top, 0, top},
		{"Srtt one below MaxTime", top - 1, 0, top - 1, top - 1, 0, top},
	} {
		r := api.Rtt{Srtt: c.srtt, Var: c.vari, Rto: 4242, Low: 1, High: top}
		before := r
		got, e := rtt.Sample(r, c.t)
		is(t, c.name, got, e, api.Rtt{Srtt: c.wantSrtt, Var: c.wantVar, Rto: c.rto, Low: 1, High: top})
		fine(t, c.name+": what is answered", rtt.Check(got))
		if r != before {
			t.Errorf("%s: what was handed in is now %+v, was %+v", c.name, r, before)
		}
	}
}

// Rto goes by Var and Srtt as they are behind the sample, and stays from Low to High.
func TestSampleRto(t *testing.T) {
	for _, c := range []struct {
		name           string
		low, high, rto int
	}{
		{"far below Low", 500000, 60000000, 500000},
		{"one below Low", 101001, 60000000, 101001},
		{"at Low", 101000, 60000000, 101000},
		{"one above Low", 100999, 60000000, 101000},
		{"between", 1, top, 101000},
		{"one below High", 1, 101001, 101000},
		{"at High", 1, 101000, 101000},
		{"one above High", 1, 100999, 100999},
		{"far above High", 1, 5, 5},
		{"Low at High", 70, 70, 70},
	} {
		for _, was := range []int{c.low, c.high} {
			r := api.Rtt{Srtt: 80000, Var: 4000, Rto: was, Low: c.low, High: c.high}
			got, e := rtt.Sample(r, 88000)
			is(t, c.name, got, e, api.Rtt{Srtt: 81000, Var: 5000, Rto: c.rto, Low: c.low, High: c.high})
		}
	}
}

func TestSampleRefuses(t *testing.T) {
	for _, r := range []api.Rtt{fresh(t, 200000, 60000000), {Srtt: 100000, Var: 50000, Rto: 300000, Low: 200000, High: 60000000}} {
		before := r
		for _, at := range []int{math.MinInt, -1000000, -1, 0, top + 1, top + 2, math.MaxInt} {
			got, e := rtt.Sample(r, at)
			refused(t, "Sample", got, e, api.ErrArg)
		}
		for _, at := range []int{1, 2, top - 1, top} {
			got, e := rtt.Sample(r, at)
			fine(t, "Sample", e)
			fine(t, "what is answered", rtt.Check(got))
		}
		if r != before {
			t.Errorf("what was handed in is now %+v, was %+v", r, before)
		}
	}
}

// P11.2: Calm

func TestCalm(t *testing.T) {
	for _, c := range []struct {
		name             string
		srtt, vari, want int
		low, high        int
	}{
		{"ordinary", 100000, 50000, 300000, 200000, 60000000},
		{"fourfold Var below 1000", 5000, 249, 6000, 1, top},
		{"fourfold Var at 1000", 5000, 250, 6000, 1, top},
		{"fourfold Var above 1000", 5000, 251, 6004, 1, top},
		{"Var 0", 5000, 0, 6000, 1, top},
		{"Srtt 1", 1, 0, 1001, 1, top},
		{"one below Low", 5000, 251, 6005, 6005, top},
		{"at Low", 5000, 251, 6004, 6004, top},
		{"at High", 5000, 251, 6004, 1, 6004},
		{"one above High", 5000, 251, 6003, 1, 6003},
		{"both at MaxTime", top, top, top, 1, top},
		{"both at MaxTime, High is little", top, top, 9, 1, 9},
		{"without a sample", 0, 0, 1000000, 1, top},
		{"without a sample, below Low", 0, 0, 1000001, 1000001, top},
		{"without a sample, at Low", 0, 0, 1000000, 1000000, top},
		{"without a sample, at High", 0, 0, 1000000, 1, 1000000},
		{"without a sample, above High", 0, 0, 999999, 1, 999999},
		{"without a sample, with Var", 0, 50000, 1000000, 1, top},
	} {
		for _, was := range []int{c.low, (c.low + c.high) / 2, c.high} {
			r := api.Rtt{Srtt: c.srtt, Var: c.vari, Rto: was, Low: c.low, High: c.high}
			before := r
			got, e := rtt.Calm(r)
			is(t, c.name, got, e, api.Rtt{Srtt: c.srtt, Var: c.vari, Rto: c.want, Low: c.low, High: c.high})
			if r != before {
				t.Errorf("%s: what was handed in is now %+v, was %+v", c.name, r, before)
			}
		}
	}
}

// Calm behind one Back and behind many gives what was there ahead.
func TestCalmBehindBack(t *testing.T) {
	none := fresh(t, 200000, 60000000)
	one, e := rtt.Sample(none, 100000)
	fine(t, "Sample", e)
	for _, r := range []api.Rtt{none, one} {
		backed := r
		for range 10 {
			backed, e = rtt.Back(backed)
			fine(t, "Back", e)
			if backed == r {
				t.Errorf("Back changed nothing: %+v", r)
			}
			got, e := rtt.Calm(backed)
			is(t, "Calm", got, e, r)
			got, e = rtt.Calm(got)
			is(t, "Calm twice", got, e, r)
		}
	}
}

// P11.2: Back

func TestBack(t *testing.T) {
	for _, c := range []struct {
		name                 string
		rto, low, high, want int
	}{
		{"ordinary", 300000, 200000, 60000000, 600000},
		{"at Low", 200000, 200000, 60000000, 400000},
		{"1", 1, 1, 60000000, 2},
		{"one below half of High", 49, 1, 100, 98},
		{"at half of High", 50, 1, 100, 100},
		{"one more than half of High", 51, 1, 100, 100},
		{"half of an odd High, downwards", 50, 1, 101, 100},
		{"half of an odd High, upwards", 51, 1, 101, 101},
		{"one below High", 99, 1, 100, 100},
		{"at High", 100, 1, 100, 100},
		{"Low at High", 100, 100, 100, 100},
		{"1 alone", 1, 1, 1, 1},
		{"half of MaxTime", top / 2, 1, top, top},
		{"one below half of MaxTime", top/2 - 1, 1, top, top - 2},
		{"one more than half of MaxTime", top/2 + 1, 1, top, top},
		{"MaxTime", top, 1, top, top},
	} {
		for _, srtt := range []int{0, 1, 77, top} {
			for _, vari := range []int{0, 5, top} {
				r := api.Rtt{Srtt: srtt, Var: vari, Rto: c.rto, Low: c.low, High: c.high}
				before := r
				got, e := rtt.Back(r)
				is(t, c.name, got, e, api.Rtt{Srtt: srtt, Var: vari, Rto: c.want, Low: c.low, High: c.high})
				if r != before {
					t.Errorf("%s: what was handed in is now %+v, was %+v", c.name, r, before)
				}
			}
		}
	}
}

func TestBackAgainAndAgain(t *testing.T) {
	r := fresh(t, 200000, 60000000)
	for _, want := range []int{2000000, 4000000, 8000000, 16000000, 32000000, 60000000, 60000000, 60000000} {
		var e api.Errno
		r, e = rtt.Back(r)
		is(t, "Back", r, e, api.Rtt{Rto: want, Low: 200000, High: 60000000})
	}
}
