package cubic_test

import (
	"math"
	"reflect"
	"testing"

	"tideway/api"
	"tideway/cubic"
)

const (
	size   = api.MaxSize
	most   = api.MaxMss
	late   = api.MaxTime
	mostK  = 2097151
	second = 1000000
)

// fine asks that a call went well.
func fine(t *testing.T, name string, e api.Errno) {
	t.Helper()
	if e != api.OK {
		t.Errorf("%s: error %d", name, e)
	}
}

// same tells whether two controllers are alike in all fields; an empty list is like none.
func same(a, b api.Cc) bool {
	if len(a.Bw) == 0 && len(b.Bw) == 0 {
		a.Bw, b.Bw = nil, nil
	}
	return reflect.DeepEqual(a, b)
}

// is asks that a controller is the wanted one, that it may be, and that there was no error.
func is(t *testing.T, name string, got api.Cc, e api.Errno, want api.Cc) {
	t.Helper()
	if e != api.OK || !same(got, want) {
		t.Errorf("%s: %+v, %d, want %+v", name, got, e, want)
	}
	fine(t, name+": what is answered", cubic.Check(got))
}

// refused asks that a call answered an error, and nothing besides.
func refused(t *testing.T, name string, got api.Cc, e api.Errno, want api.Errno) {
	t.Helper()
	if e != want || !same(got, api.Cc{}) {
		t.Errorf("%s: %+v, %d, want error %d", name, got, e, want)
	}
}

// curve is what CUBIC keeps beside what Reno keeps.
type curve struct{ wmax, epoch, k, west, start int }

// cc answers a controller.
func cc(mss, cwnd, ssthresh, acc int, v curve) api.Cc {
	return api.Cc{
		Kind: api.Cubic, Mss: mss, Cwnd: cwnd, Ssthresh: ssthresh, Acc: acc,
		Wmax: v.wmax, Epoch: v.epoch, K: v.k, West: v.west, Start: v.start,
	}
}

// usual is a controller on its curve.
func usual() api.Cc { return cc(10, 80, 70, 5, curve{100, 4 * second, 1957, 75, 70}) }

// with answers c with one of its fields set.
func with(c api.Cc, field string, x int) api.Cc {
	reflect.ValueOf(&c).Elem().FieldByName(field).SetInt(int64(x))
	return c
}

// The chapter's example.
func TestExample(t *testing.T) {
	c, e := cubic.Acked(cc(10, 70, 70, 0, curve{wmax: 100, epoch: -1}), 10, 5, 0, false)
	is(t, "Acked", c, e, cc(10, 70, 70, 0, curve{100, 5, 1957, 70, 70}))
	for _, a := range []struct{ t, want int }{{1957, 100}, {0, 71}} {
		if got := cubic.Curve(c, a.t); got != a.want {
			t.Errorf("Curve(%d) = %d, want %d", a.t, got, a.want)
		}
	}
}

// P16.1: Check

// state is a controller, and whether it may be.
type state struct {
	name string
	c    api.Cc
	may  bool
}

// renos are controllers about every edge of the fields that Reno has, too.
func renos() []state {
	v := curve{100, 4 * second, 1957, 75, 70}
	return []state{
		{"Mss far below 0", cc(math.MinInt, 80, 70, 5, v), false},
		{"Mss -1", cc(-1, 80, 70, 5, v), false},
		{"Mss 0", cc(0, 80, 70, 5, v), false},
		{"Mss 1", cc(1, 80, 70, 5, v), true},
		{"Mss MaxMss", cc(most, size, size, 5, v), true},
		{"Mss one past MaxMss", cc(most+1, size, size, 5, v), false},
		{"Mss far past MaxMss", cc(math.MaxInt, size, size, 5, v), false},

		{"Cwnd far below 0", cc(10, math.MinInt, 70, 5, v), false},
		{"Cwnd 0", cc(10, 0, 70, 5, v), false},
		{"Cwnd one below Mss", cc(10, 9, 70, 5, v), false},
		{"Cwnd at Mss", cc(10, 10, 70, 5, v), true},
		{"Cwnd one above Mss", cc(10, 11, 70, 5, v), true},
		{"Cwnd one below Mss, the greatest", cc(most, most-1, size, 5, v), false},
		{"Cwnd at Mss, the greatest", cc(most, most, size, 5, v), true},
		{"Cwnd at MaxSize", cc(10, size, 70, 5, v), true},
		{"Cwnd one past MaxSize", cc(10, size+1, 70, 5, v), false},
		{"Cwnd far past MaxSize", cc(10, math.MaxInt, 70, 5, v), false},

		{"Ssthresh far below 0", cc(10, 80, math.MinInt, 5, v), false},
		{"Ssthresh 0", cc(10, 80, 0, 5, v), false},
		{"Ssthresh one below 2 Mss", cc(10, 80, 19, 5, v), false},
		{"Ssthresh at 2 Mss", cc(10, 80, 20, 5, v), true},
		{"Ssthresh one above 2 Mss", cc(10, 80, 21, 5, v), true},
		{"Ssthresh one below 2 Mss, the greatest", cc(most, most, 2*most-1, 5, v), false},
		{"Ssthresh at 2 Mss, the greatest", cc(most, most, 2*most, 5, v), true},
		{"Ssthresh at MaxSize", cc(10, 80, size, 5, v), true},
		{"Ssthresh one past MaxSize", cc(10, 80, size+1, 5, v), false},
		{"Ssthresh far past MaxSize", cc(10, 80, math.MaxInt, 5, v), false},

		{"Acc far below 0", cc(10, 80, 70, math.MinInt, v), false},
		{"Acc -1", cc(10, 80, 70, -1, v), false},
		{"Acc 0", cc(10, 80, 70, 0, v), true},
		{"Acc at MaxSize", cc(10, 80, 70, size, v), true},
		{"Acc one past MaxSize", cc(10, 80, 70, size+1, v), false},
		{"Acc far past MaxSize", cc(10, 80, 70, math.MaxInt, v), false},
	}
}

// curves are controllers about every edge of the fields that are CUBIC's alone.
func curves() []state {
	var l []state
	for _, f := range []struct {
		name        string
		least, last int
	}{{"Wmax", 0, size}, {"West", 0, size}, {"Start", 0, size}, {"K", 0, mostK}, {"Epoch", -1, late}} {
		for _, x := range []int{math.MinInt, -size, f.least - 2, f.least - 1, f.last + 1, f.last + 2, 2 * f.last, math.MaxInt} {
			l = append(l, state{f.name + " is out", with(usual(), f.name, x), false})
		}
		for _, x := range []int{f.least, f.least + 1, f.least + 2, 1, 100, f.last - 1, f.last} {
			l = append(l, state{f.name + " is in", with(usual(), f.name, x), true})
		}
	}
	return append(l,
		state{"usual", usual(), true},
		state{"the zero value", api.Cc{}, false},
		state{"Kind alone", api.Cc{Kind: api.Cubic}, false},
		state{"Epoch 0, all else of the curve 0", cc(10, 80, 70, 5, curve{}), true},
		state{"all least", cc(1, 1, 2, 0, curve{0, -1, 0, 0, 0}), true},
		state{"all greatest", cc(most, size, size, size, curve{size, late, mostK, size, size}), true},
		state{"all one past", cc(most+1, size+1, size+1, size+1, curve{size + 1, late + 1, mostK + 1, size + 1, size + 1}), false},
		state{"two that add up to 0", cc(10, 80, 70, 5, curve{1, 0, -1, 0, 0}), false},
	)
}

// kinds are controllers of each kind that is not CUBIC.
func kinds() []state {
	var l []state
	for _, kind := range []api.CcKind{math.MinInt, -2, -1, 0, api.Reno, api.Bbr, 4, 258, 1<<32 + 2, math.MaxInt} {
		for _, c := range []api.Cc{usual(), cc(10, 80, 70, 5, curve{}), cc(10, 80, 70, 5, curve{epoch: -1})} {
			c.Kind = kind
			l = append(l, state{"another Kind", c, false})
		}
	}
	return l
}

// strange are controllers with one of BBR's fields that is not zero: each in turn.
func strange() []state {
	var l []state
	about := reflect.TypeFor[api.Cc]()
	mode, _ := about.FieldByName("Mode")
	for i := mode.Index[0]; i < about.NumField(); i++ {
		name := about.Field(i).Name
		for _, x := range []int{math.MinInt, -1, 1, 2, 100, 1 << 32, math.MaxInt} {
			c := usual()
			if name == "Bw" {
				c.Bw = []api.Entry{{At: x, V: 7}}
			} else {
				c = with(c, name, x)
			}
			l = append(l, state{name, c, false})
		}
	}
	zeros := usual()
	zeros.Bw = make([]api.Entry, 1)
	return append(l, state{"Bw", zeros, false})
}

func all() []state {
	l := append(renos(), curves()...)
	return append(append(l, kinds()...), strange()...)
}

func TestCheck(t *testing.T) {
	for _, s := range all() {
		want := api.ErrState
		if s.may {
			want = api.OK
		}
		if got := cubic.Check(s.c); got != want {
			t.Errorf("%s: Check(%+v) = %d, want %d", s.name, s.c, got, want)
		}
	}
}

func TestEachFieldIsAsked(t *testing.T) {
	names := map[string]bool{}
	for _, s := range strange() {
		names[s.name] = true
	}
	if want := reflect.TypeFor[api.Cc]().NumField() - 10; len(names) != want {
		t.Errorf("%d of BBR's fields, want %d", len(names), want)
	}
}

// P16.1: what all other calls refuse

// R2: what may not be is named ahead of numbers that may not be.
func TestOthersAreRefused(t *testing.T) {
	for _, s := range all() {
		if s.may {
			continue
		}
		for _, n := range []int{math.MinInt, -1, 0, 1, size, size + 1, late, late + 1, math.MaxInt} {
			for _, idle := range []bool{false, true} {
				for _, times := range [][2]int{{5, 5}, {n, 5}, {5, n}, {n, n}} {
					got, e := cubic.Acked(s.c, n, times[0], times[1], idle)
					refused(t, s.name+": Acked", got, e, api.ErrState)
				}
			}
			got, e := cubic.Loss(s.c, n)
			refused(t, s.name+": Loss", got, e, api.ErrState)
			got, e = cubic.Timeout(s.c, n)
			refused(t, s.name+": Timeout", got, e, api.ErrState)
			got, e = cubic.Done(s.c)
			refused(t, s.name+": Done", got, e, api.ErrState)
		}
	}
}

// anyWay answers controllers that go each another way in Acked: on the curve, below Ssthresh, without an epoch, at the end.
func anyWay() []api.Cc {
	return []api.Cc{usual(), with(usual(), "Ssthresh", 200), with(usual(), "Epoch", -1), with(usual(), "Cwnd", size)}
}

func TestNumbersAreRefused(t *testing.T) {
	for _, c := range anyWay() {
		for _, n := range []int{math.MinInt, -size, -2, -1, size + 1, size + 2, 2 * size, late, math.MaxInt} {
			for _, idle := range []bool{false, true} {
				got, e := cubic.Acked(c, n, 5, 5, idle)
				refused(t, "Acked, n", got, e, api.ErrArg)
				got, e = cubic.Acked(c, n, n, n, idle)
				refused(t, "Acked, n and more", got, e, api.ErrArg)
			}
			got, e := cubic.Loss(c, n)
			refused(t, "Loss", got, e, api.ErrArg)
			got, e = cubic.Timeout(c, n)
			refused(t, "Timeout", got, e, api.ErrArg)
		}
		for _, n := range []int{math.MinInt, -late, -2, -1, late + 1, late + 2, 2 * late, math.MaxInt} {
			for _, idle := range []bool{false, true} {
				got, e := cubic.Acked(c, 5, n, 5, idle)
				refused(t, "Acked, now", got, e, api.ErrArg)
				got, e = cubic.Acked(c, 5, 5, n, idle)
				refused(t, "Acked, srtt", got, e, api.ErrArg)
				got, e = cubic.Acked(c, 5, n, n, idle)
				refused(t, "Acked, both", got, e, api.ErrArg)
			}
		}
	}
}

func TestNumbersAreTaken(t *testing.T) {
	for _, c := range anyWay() {
		for _, n := range []int{0, 1, size - 1, size} {
			for _, now := range []int{0, 1, size + 1, late - 1, late} {
				for _, srtt := range []int{0, 1, size + 1, late - 1, late} {
					_, e := cubic.Acked(c, n, now, srtt, false)
					fine(t, "Acked", e)
					_, e = cubic.Acked(c, n, now, srtt, true)
					fine(t, "Acked, idle", e)
				}
			}
			_, e := cubic.Loss(c, n)
			fine(t, "Loss", e)
			_, e = cubic.Timeout(c, n)
			fine(t, "Timeout", e)
		}
	}
}

// P16.1: New

func TestNew(t *testing.T) {
	for _, c := range []struct{ mss, first, cwnd int }{
		{1, 1, 1}, {1, 2, 2}, {1, 99, 99}, {1, 100, 100}, {10, 2, 20}, {1460, 10, 14600},
		{most - 1, 1, 64999}, {most, 1, 65000}, {most, 99, 6435000}, {most, 100, 6500000},
	} {
		got, e := cubic.New(c.mss, c.first)
		is(t, "New", got, e, api.Cc{Kind: api.Cubic, Mss: c.mss, Cwnd: c.cwnd, Ssthresh: size, Epoch: -1})
	}
}

func TestNewRefuses(t *testing.T) {
	wrongMss := []int{math.MinInt, -10, -1, 0, most + 1, most + 2, size, math.MaxInt}
	wrongFirst := []int{math.MinInt, -2, -1, 0, 101, 102, most, size, math.MaxInt}
	for _, mss := range wrongMss {
		for _, first := range append([]int{1, 2, 100}, wrongFirst...) {
			got, e := cubic.New(mss, first)
			refused(t, "New, mss", got, e, api.ErrArg)
		}
	}
	for _, first := range wrongFirst {
		for _, mss := range []int{1, 10, most} {
			got, e := cubic.New(mss, first)
			refused(t, "New, first", got, e, api.ErrArg)
		}
	}
}

// P16.2

// onCurve answers a controller whose curve goes through wmax at k.
func onCurve(mss, wmax, k int) api.Cc {
	return cc(mss, mss, 2*mss, 0, curve{wmax: wmax, epoch: -1, k: k})
}

func TestCurveOfWhatMayNotBe(t *testing.T) {
	for _, s := range all() {
		for _, at := range []int{math.MinInt, -1, 0, 1, 1957, 5000, math.MaxInt} {
			if got := cubic.Curve(s.c, at); !s.may && got != 0 {
				t.Errorf("%s: Curve(%d) = %d, want 0", s.name, at, got)
			}
		}
	}
}

// point is a place on a curve.
type point struct{ mss, wmax, k, t, want int }

func askCurve(t *testing.T, l []point) {
	t.Helper()
	for _, p := range l {
		if got := cubic.Curve(onCurve(p.mss, p.wmax, p.k), p.t); got != p.want {
			t.Errorf("Curve of %+v = %d", p, got)
		}
	}
}

func TestCurve(t *testing.T) {
	askCurve(t, []point{
		{10, 100, 1957, -1, 70}, {10, 100, 1957, 0, 71}, {10, 100, 1957, 1, 71}, {10, 100, 1957, 1000, 97},
		{10, 100, 1957, 1956, 100}, {10, 100, 1957, 1957, 100}, {10, 100, 1957, 1958, 100},
		{10, 100, 1957, 3000, 104}, {10, 100, 1957, 4000, 134}, {10, 100, 1957, 10000, 2181}, {10, 100, 1957, 100000, 3769825},

		{1000, 10000, 0, 0, 10000}, {1000, 10000, 0, 1000, 10400}, {1000, 10000, 0, 1999, 13195},
		{1000, 10000, 0, 2000, 13200}, {1000, 10000, 0, 2001, 13204},
		{1000, 10000, 2000, 2000, 10000}, {1000, 10000, 2000, 3000, 10400}, {1000, 10000, 2000, 1000, 9600},
		{1000, 10000, 2000, 0, 6800}, {1000, 10000, 2000, 1, 6805}, {1000, 10000, 2000, -1000, 0},

		{65000, 500, 50, 50, 500}, {65000, 500, 50, 49, 500}, {65000, 500, 50, 51, 500},
	})
}

// What is beside the curve is cut off on both sides, and does not go the same way: both come nearer to Wmax.
func TestCurveIsCutDown(t *testing.T) {
	askCurve(t, []point{
		{10, 100, 1000, 1000 + 629, 100}, {10, 100, 1000, 1000 + 630, 101},
		{10, 100, 1000, 1000 - 629, 100}, {10, 100, 1000, 1000 - 630, 99},
		{most, 100, 1000, 1000 + 33, 100}, {most, 100, 1000, 1000 + 34, 101},
		{most, 100, 1000, 1000 - 33, 100}, {most, 100, 1000, 1000 - 34, 99},
		{1, 100, 5000, 5000 + 1357, 100}, {1, 100, 5000, 5000 + 1358, 101},
		{1, 100, 5000, 5000 - 1357, 100}, {1, 100, 5000, 5000 - 1358, 99},
	})
}

// A million milliseconds to either side are the most that count.
func TestCurveFarAway(t *testing.T) {
	const far = 1000000
	askCurve(t, []point{
		{1, 0, 0, far - 1, 399998800}, {1, 0, 0, far, 400000000}, {1, 0, 0, far + 1, 400000000}, {1, 0, 0, math.MaxInt, 400000000},
		{2, 5, 0, far - 1, 799997605}, {2, 5, 0, far, 800000005}, {2, 5, 0, far + 1, 800000005},
		{1, 0, 7, far + 6, 399998800}, {1, 0, 7, far + 7, 400000000}, {1, 0, 7, far + 8, 400000000},
		{1, 0, mostK, far + mostK - 1, 399998800}, {1, 0, mostK, far + mostK, 400000000}, {1, 0, mostK, far + mostK + 1, 400000000},
		{1, 0, mostK, math.MaxInt, 400000000}, {1, 0, mostK, math.MaxInt - 1, 400000000},

		{1, size, 0, 1 - far, 673743024}, {1, size, 0, -far, 673741824}, {1, size, 0, -far - 1, 673741824}, {1, size, 0, math.MinInt, 673741824},
		{1, size, 7, 8 - far, 673743024}, {1, size, 7, 7 - far, 673741824}, {1, size, 7, 6 - far, 673741824}, {1, size, 7, math.MinInt, 673741824},
		{1, size, mostK, mostK - far + 1, 673743024}, {1, size, mostK, mostK - far, 673741824}, {1, size, mostK, mostK - far - 1, 673741824},
		{1, size, mostK, 0, 673741824}, {1, size, mostK, -1, 673741824}, {1, size, mostK, math.MinInt, 673741824}, {1, size, mostK, math.MinInt + 1, 673741824},
	})
}

func TestCurveIsClamped(t *testing.T) {
	askCurve(t, []point{
		{1000, 3199, 2000, 0, 0}, {1000, 3200, 2000, 0, 0}, {1000, 3201, 2000, 0, 1},
		{1000, 0, 2000, 0, 0}, {1000, 0, 2000, 1999, 0}, {1000, 0, 2000, 2000, 0},
		{most, 0, 0, math.MinInt, 0}, {most, size, 0, math.MinInt, 0}, {most, size, mostK, 0, 0},
		{1, 0, mostK, math.MinInt, 0}, {1, 399999999, mostK, math.MinInt, 0}, {1, 400000001, mostK, math.MinInt, 1},

		{1000, size - 3201, 0, 2000, size - 1}, {1000, size - 3200, 0, 2000, size}, {1000, size - 3199, 0, 2000, size},
		{1000, size, 0, 2000, size}, {1000, size, 0, 0, size}, {1000, size, 0, -2000, size - 3200},
		{most, 0, 0, math.MaxInt, size}, {most, size, 0, math.MaxInt, size}, {most, size, mostK, math.MaxInt, size},
		{1, size - 400000001, 0, math.MaxInt, size - 1}, {1, size - 399999999, 0, math.MaxInt, size},
	})
}

// The curve hangs on Mss, Wmax and K alone.
func TestCurveOfOthers(t *testing.T) {
	for _, f := range []string{"Cwnd", "Ssthresh", "Acc", "Epoch", "West", "Start"} {
		for _, x := range []int{2000, 3333, 777777, size} {
			if got := cubic.Curve(with(onCurve(1000, 10000, 2000), f, x), 4000); got != 13200 {
				t.Errorf("%s %d: %d, want 13200", f, x, got)
			}
		}
	}
}
