package bbr_test

import (
	"math"
	"reflect"
	"testing"

	"tideway/api"
	"tideway/bbr"
)

const (
	size     = api.MaxSize
	most     = api.MaxMss
	late     = api.MaxTime
	fastest  = api.MaxRate
	second   = 1000000
	startup  = int(api.Startup)
	drain    = int(api.Drain)
	probeBw  = int(api.ProbeBw)
	probeRtt = int(api.ProbeRtt)
)

// fine asks that a call went well.
func fine(t *testing.T, name string, e api.Errno) {
	t.Helper()
	if e != api.OK {
		t.Errorf("%s: error %d", name, e)
	}
}

// same tells whether two controllers are alike in all fields; an empty list is like none.
func same(a, b api.Cc) bool {
	if len(a.Bw) == 0 && len(b.Bw) == 0 {
		a.Bw, b.Bw = nil, nil
	}
	return reflect.DeepEqual(a, b)
}

// is asks that a controller is the wanted one, that it may be, and that there was no error.
func is(t *testing.T, name string, got api.Cc, e api.Errno, want api.Cc) {
	t.Helper()
	if e != api.OK || !same(got, want) {
		t.Errorf("%s: %+v, %d, want %+v", name, got, e, want)
	}
	fine(t, name+": what is answered", bbr.Check(got))
}

// refused asks that a call answered an error, and nothing besides.
func refused(t *testing.T, name string, got api.Cc, e api.Errno, want api.Errno) {
	t.Helper()
	if e != want || !same(got, api.Cc{}) {
		t.Errorf("%s: %+v, %d, want error %d", name, got, e, want)
	}
}

// entries answers entries of times and values, by turns.
func entries(x ...int) []api.Entry {
	var l []api.Entry
	for i := 0; i < len(x); i += 2 {
		l = append(l, api.Entry{At: x[i], V: x[i+1]})
	}
	return l
}

// row answers c with Bw set.
func row(c api.Cc, x ...int) api.Cc {
	c.Bw = entries(x...)
	return c
}

// with answers c with fields set: names and numbers by turns.
func with(c api.Cc, pairs ...any) api.Cc {
	set(reflect.ValueOf(&c).Elem(), pairs)
	return c
}

// set sets fields of a struct.
func set(v reflect.Value, pairs []any) {
	for i := 0; i < len(pairs); i += 2 {
		v.FieldByName(pairs[i].(string)).SetInt(int64(pairs[i+1].(int)))
	}
}

// usual is a controller that has found what its path holds: 100 bytes, by 1000000 bytes a second and 100 microseconds.
func usual() api.Cc {
	return api.Cc{
		Kind: api.Bbr, Mss: 10, Cwnd: 200, Ssthresh: size,
		Mode: api.ProbeBw, Bw: entries(45, 1000000, 48, 900000), MinRtt: 100, MinAt: 5 * second, Round: 50, NextAt: 9000,
		Full: 1000000, FullN: 3, Phase: 4, PhaseAt: 6 * second, Prior: 70,
	}
}

// The chapter's example.
func TestExample(t *testing.T) {
	c := with(row(usual(), 7, 1000000), "MinRtt", 100000)
	if got := bbr.Product(c); got != 100000 {
		t.Errorf("Product %d, want 100000", got)
	}
}

// P18.1: Check

// state is a controller, and whether it may be.
type state struct {
	name string
	c    api.Cc
	may  bool
}

// span is a field's limits.
type span struct {
	name        string
	least, last int
}

// spans are the limits of all fields but Bw, in usual.
func spans() []span {
	return []span{
		{"Kind", 3, 3}, {"Mss", 1, 200}, {"Cwnd", 10, size}, {"Ssthresh", size, size}, {"Acc", 0, 0},
		{"Wmax", 0, 0}, {"Epoch", 0, 0}, {"K", 0, 0}, {"West", 0, 0}, {"Start", 0, 0},
		{"Mode", 1, 4}, {"MinRtt", 0, late}, {"MinAt", 0, late}, {"Round", 48, late}, {"NextAt", 0, late},
		{"Full", 0, fastest}, {"FullN", 0, 3}, {"Phase", 0, 7}, {"PhaseAt", 0, late}, {"DoneAt", 0, late}, {"Prior", 0, size},
	}
}

// edges are controllers with one field about its limits: each in turn.
func edges() []state {
	var l []state
	for _, f := range spans() {
		for _, x := range []int{math.MinInt, -1 << 32, -1, f.least - 2, f.least - 1, f.last + 1, f.last + 2, 2*f.last + 1, f.last + 1<<32, f.last + 1<<52, math.MaxInt} {
			if x < f.least || x > f.last {
				l = append(l, state{f.name + " is out", with(usual(), f.name, x), false})
			}
		}
		for _, x := range []int{f.least, f.least + 1, (f.least + f.last) / 2, f.last - 1, f.last} {
			if x >= f.least && x <= f.last {
				l = append(l, state{f.name + " is in", with(usual(), f.name, x), true})
			}
		}
	}
	return l
}

// wide are controllers with several fields at limits, or about those that hang on one another.
func wide() []state {
	lowest := api.Cc{Kind: api.Bbr, Mss: 1, Cwnd: 1, Ssthresh: size, Mode: api.Startup}
	highest := api.Cc{
		Kind: api.Bbr, Mss: most, Cwnd: size, Ssthresh: size, Mode: api.ProbeRtt, Bw: entries(late, fastest), MinRtt: late,
		MinAt: late, Round: late, NextAt: late, Full: fastest, FullN: 3, Phase: 7, PhaseAt: late, DoneAt: late, Prior: size,
	}
	return []state{
		{"usual", usual(), true},
		{"the zero value", api.Cc{}, false},
		{"Kind alone", api.Cc{Kind: api.Bbr}, false},
		{"all least", lowest, true},
		{"all greatest", highest, true},
		{"Mss MaxMss", with(usual(), "Mss", most, "Cwnd", size), true},
		{"Mss one past MaxMss", with(usual(), "Mss", most+1, "Cwnd", size), false},
		{"Mss far past MaxMss", with(usual(), "Mss", size, "Cwnd", size), false},
		{"Mss MaxMss, Cwnd one below", with(usual(), "Mss", most, "Cwnd", most-1), false},
		{"Mss MaxMss, Cwnd at it", with(usual(), "Mss", most, "Cwnd", most), true},
		{"Mss and Cwnd 0", with(usual(), "Mss", 0, "Cwnd", 0), false},
		{"Ssthresh 2 Mss", with(usual(), "Ssthresh", 20), false},
		{"two of CUBIC's that add up to 0", with(usual(), "Wmax", 1, "West", -1), false},
		{"Acc and Ssthresh", with(usual(), "Acc", 1, "Ssthresh", size-1), false},
		{"the greatest without MinRtt", with(highest, "MinRtt", 0), true},
		{"Startup and FullN 3", with(usual(), "Mode", startup), true},
		{"ProbeBw and FullN 0", with(usual(), "FullN", 0), true},
	}
}

// rows are controllers with other rates.
func rows() []state {
	c := usual()
	return []state{
		{"no rate", row(c), true},
		{"no rate, Round 0", with(row(c), "Round", 0), true},
		{"an empty row", func() api.Cc { c := usual(); c.Bw = []api.Entry{}; return c }(), true},
		{"rate 0", row(c, 0, 0), true},
		{"rate 1", row(c, 0, 1), true},
		{"rate -1", row(c, 0, -1), false},
		{"rate one below MaxRate", row(c, 0, fastest-1), true},
		{"rate MaxRate", row(c, 0, fastest), true},
		{"rate one above MaxRate", row(c, 0, fastest+1), false},
		{"rate as layer 12 has it at most", row(c, 0, 1<<60), false},
		{"rate beyond layer 12", row(c, 0, 1<<60+1), false},
		{"rate far beyond", row(c, 0, math.MaxInt), false},
		{"the first above MaxRate, others not", row(c, 1, fastest+1, 2, fastest, 3, 7), false},
		{"the first MaxRate", row(c, 1, fastest, 2, fastest-1, 3, 7), true},
		{"time -1", row(c, -1, 5), false},
		{"a time beyond", with(row(c, late+1, 5), "Round", late), false},
		{"the last time", with(row(c, late, 5), "Round", late), true},
		{"times alike", row(c, 4, 5, 4, 3), false},
		{"times fall", row(c, 5, 5, 4, 3), false},
		{"rates alike", row(c, 4, 5, 6, 5), false},
		{"rates rise", row(c, 4, 5, 6, 7), false},
		{"a break at the end", row(c, 4, 9, 5, 8, 6, 7, 7, 7), false},
		{"a break behind the first", row(c, 4, 9, 4, 8, 6, 7, 7, 6), false},
		{"many", row(c, 4, 9, 5, 8, 6, 7, 7, 6, 9, 5, 20, 4, 21, 3, 22, 2, 30, 1, 50, 0), true},
		{"far older than the window", row(c, 0, 9, 50, 8), true},

		{"Round two below the last", with(row(c, 45, 9, 48, 8), "Round", 46), false},
		{"Round one below the last", with(row(c, 45, 9, 48, 8), "Round", 47), false},
		{"Round at the last", with(row(c, 45, 9, 48, 8), "Round", 48), true},
		{"Round one above the last", with(row(c, 45, 9, 48, 8), "Round", 49), true},
		{"Round below the last, above the first", with(row(c, 4, 9, 48, 8), "Round", 40), false},
		{"Round 0 at the only one", with(row(c, 0, 9), "Round", 0), true},
		{"Round 0 below the only one", with(row(c, 1, 9), "Round", 0), false},
		{"Round one below the last time", with(row(c, late, 9), "Round", late-1), false},
	}
}

func all() []state { return append(append(edges(), wide()...), rows()...) }

func TestCheck(t *testing.T) {
	for _, s := range all() {
		want := api.ErrState
		if s.may {
			want = api.OK
		}
		if got := bbr.Check(s.c); got != want {
			t.Errorf("%s: Check(%+v) = %d, want %d", s.name, s.c, got, want)
		}
	}
}

// The edges leave out Bw alone.
func TestEachFieldIsAsked(t *testing.T) {
	names := map[string]bool{}
	for _, f := range spans() {
		names[f.name] = true
	}
	if want := reflect.TypeFor[api.Cc]().NumField() - 1; len(names) != want {
		t.Errorf("%d fields, want %d", len(names), want)
	}
}

// P18.1: New

func TestNew(t *testing.T) {
	for _, mss := range []int{math.MinInt, -1, 0, 1, 2, 10, 1460, most - 1, most, most + 1, 1<<32 + 10, math.MaxInt} {
		for _, first := range []int{math.MinInt, -1, 0, 1, 2, 10, 99, 100, 101, 1<<32 + 10, math.MaxInt} {
			got, e := bbr.New(mss, first)
			if mss < 1 || mss > most || first < 1 || first > 100 {
				refused(t, "New", got, e, api.ErrArg)
			} else {
				is(t, "New", got, e, api.Cc{Kind: api.Bbr, Mss: mss, Cwnd: first * mss, Ssthresh: size, Mode: api.Startup})
			}
		}
	}
}

// P18.1: what all other calls refuse

// sample is one that changes nothing in usual.
func sample() api.Sample {
	return api.Sample{Now: 6*second + 50, Given: 9500, Before: 8000, Flight: 150}
}

// told answers sample with fields set: names and numbers by turns.
func told(pairs ...any) api.Sample {
	s := sample()
	set(reflect.ValueOf(&s).Elem(), pairs)
	return s
}

// idle answers s, of an application that had nothing more.
func idle(s api.Sample) api.Sample {
	s.Idle = true
	return s
}

// limits are the limits of a Sample's fields but Idle.
func limits() []span {
	return []span{
		{"Now", 0, late}, {"Acked", 0, size}, {"Rtt", 0, late}, {"Rate", 0, math.MaxInt},
		{"Given", 0, late}, {"Before", 0, late}, {"Flight", 0, size},
	}
}

// wrong are Samples with a number that may not be.
func wrong() []api.Sample {
	var l []api.Sample
	for _, f := range limits() {
		for _, x := range []int{math.MinInt, -size, -1, f.last + 1, f.last + 1<<52, 2*f.last + 1, math.MaxInt} {
			if x < f.least || x > f.last {
				l = append(l, told(f.name, x), idle(told(f.name, x)))
			}
		}
	}
	return append(l, told("Now", -1, "Acked", size+1, "Rate", -1), told("Given", late+1, "Before", late+1))
}

func TestSamplesAreRefused(t *testing.T) {
	for _, s := range wrong() {
		for _, x := range all() {
			if x.may {
				got, e := bbr.Acked(x.c, s)
				refused(t, x.name+": Acked", got, e, api.ErrArg)
			}
		}
	}
}

func TestSamplesAtTheirLimits(t *testing.T) {
	for _, f := range limits() {
		for _, x := range []int{0, 1, f.last - 1, f.last} {
			for _, a := range all() {
				if !a.may {
					continue
				}
				got, e := bbr.Acked(a.c, told(f.name, x))
				fine(t, a.name+": "+f.name, e)
				fine(t, a.name+": what is answered", bbr.Check(got))
			}
		}
	}
}

// R2: what may not be is named ahead of numbers that may not be.
func TestOthersAreRefused(t *testing.T) {
	for _, x := range all() {
		if x.may {
			continue
		}
		for _, s := range append(wrong(), sample(), idle(sample()), api.Sample{}) {
			got, e := bbr.Acked(x.c, s)
			refused(t, x.name+": Acked", got, e, api.ErrState)
		}
		for _, flight := range []int{math.MinInt, -1, 0, 1, size, size + 1, math.MaxInt} {
			got, e := bbr.Timeout(x.c, flight)
			refused(t, x.name+": Timeout", got, e, api.ErrState)
		}
		if b, p, g := bbr.Bandwidth(x.c), bbr.Product(x.c), bbr.Gain(x.c); b != 0 || p != 0 || g != 0 {
			t.Errorf("%s: Bandwidth %d, Product %d, Gain %d", x.name, b, p, g)
		}
	}
}

// P18.2

func TestBandwidth(t *testing.T) {
	for _, a := range []struct {
		name string
		c    api.Cc
		want int
	}{
		{"no entry", row(usual()), 0},
		{"one", row(usual(), 7, 5), 5},
		{"one of 0", row(usual(), 7, 0), 0},
		{"one of 1", row(usual(), 7, 1), 1},
		{"one of MaxRate", row(usual(), 7, fastest), fastest},
		{"two", usual(), 1000000},
		{"several", row(usual(), 7, 500, 8, 400, 9, 300, 50, 200), 500},
		{"one older than the window", row(usual(), 7, 500), 500},
		{"without MinRtt", with(usual(), "MinRtt", 0), 1000000},
		{"another Full", with(usual(), "Full", fastest), 1000000},
	} {
		for mode := startup; mode <= probeRtt; mode++ {
			if got := bbr.Bandwidth(with(a.c, "Mode", mode)); got != a.want {
				t.Errorf("%s: %d, want %d", a.name, got, a.want)
			}
		}
	}
}

func TestProduct(t *testing.T) {
	for _, a := range []struct {
		name      string
		rate, rtt int
		want      int
	}{
		{"both 0", 0, 0, 0},
		{"MinRtt 0", 1000000, 0, 0},
		{"Bandwidth 0", 0, 100, 0},
		{"even", 1000000, 100000, 100000},
		{"one below 1", 999999, 1, 0},
		{"just 1", 1000000, 1, 1},
		{"just below 2", 1999999, 1, 1},
		{"one by one", 1, 1, 0},
		{"a third of a million", 333333, 3, 0},
		{"a little more", 333334, 3, 1},
		{"a day", 1000, 86400000000, 86400000},
		{"two below MaxSize", 1073741822, 1000000, size - 2},
		{"one below MaxSize", 1073741823, 1000000, size - 1},
		{"just below MaxSize", 32767999, 32768001, size - 1},
		{"just at MaxSize", 32768000, 32768000, size},
		{"at MaxSize", 1073741824, 1000000, size},
		{"one beyond MaxSize", 1073741825, 1000000, size},
		{"far beyond MaxSize", 1 << 40, 1 << 40, size},
		{"the greatest", fastest, late, size},
	} {
		for mode := startup; mode <= probeRtt; mode++ {
			c := with(row(usual(), 7, a.rate), "MinRtt", a.rtt, "Mode", mode)
			if got := bbr.Product(c); got != a.want {
				t.Errorf("%s: %d, want %d", a.name, got, a.want)
			}
		}
	}
	if got := bbr.Product(row(usual())); got != 0 {
		t.Errorf("Product %d without any rate", got)
	}
}

func TestGain(t *testing.T) {
	cycle := []int{125, 75, 100, 100, 100, 100, 100, 100}
	for phase, want := range cycle {
		for _, c := range []api.Cc{usual(), row(usual()), with(usual(), "FullN", 0), with(usual(), "MinRtt", 0)} {
			c.Phase = phase
			for mode, want := range map[int]int{startup: 289, drain: 35, probeBw: want, probeRtt: 100} {
				if got := bbr.Gain(with(c, "Mode", mode)); got != want {
					t.Errorf("Mode %d, Phase %d: %d, want %d", mode, phase, got, want)
				}
			}
		}
	}
	c, e := bbr.New(10, 4)
	if got := bbr.Gain(c); e != api.OK || got != 289 {
		t.Errorf("New: %d, %d", got, e)
	}
}

// P18.3: Timeout

func TestTimeout(t *testing.T) {
	for _, x := range all() {
		if !x.may {
			continue
		}
		want := with(x.c, "Prior", x.c.Cwnd, "Cwnd", x.c.Mss)
		for _, flight := range []int{0, 1, 10, 200, size - 1, size} {
			got, e := bbr.Timeout(x.c, flight)
			is(t, x.name+": Timeout", got, e, want)
		}
		for _, flight := range []int{math.MinInt, -size, -1, size + 1, late, math.MaxInt} {
			got, e := bbr.Timeout(x.c, flight)
			refused(t, x.name+": Timeout", got, e, api.ErrArg)
		}
	}
}

// Of two timeouts in a row the second one finds a segment.
func TestTwoTimeouts(t *testing.T) {
	c, e := bbr.Timeout(usual(), 150)
	is(t, "one", c, e, with(usual(), "Prior", 200, "Cwnd", 10))
	c, e = bbr.Timeout(c, 0)
	is(t, "two", c, e, with(usual(), "Prior", 10, "Cwnd", 10))
}
