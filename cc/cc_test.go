package cc_test

import (
	"math"
	"reflect"
	"testing"

	"tideway/api"
	"tideway/cc"
)

const (
	size    = api.MaxSize
	most    = api.MaxMss
	late    = api.MaxTime
	fastest = api.MaxRate
	mostK   = 2097151
	second  = 1000000
)

// fine asks that a call went well.
func fine(t *testing.T, name string, e api.Errno) {
	t.Helper()
	if e != api.OK {
		t.Errorf("%s: error %d", name, e)
	}
}

// same tells whether two controllers are alike in all fields; an empty list is like none.
func same(a, b api.Cc) bool {
	if len(a.Bw) == 0 && len(b.Bw) == 0 {
		a.Bw, b.Bw = nil, nil
	}
	return reflect.DeepEqual(a, b)
}

// is asks that a controller is the wanted one, that it may be, and that there was no error.
func is(t *testing.T, name string, got api.Cc, e api.Errno, want api.Cc) {
	t.Helper()
	if e != api.OK || !same(got, want) {
		t.Errorf("%s: %+v, %d, want %+v", name, got, e, want)
	}
	fine(t, name+": what is answered", cc.Check(got))
}

// refused asks that a call answered an error, and nothing besides.
func refused(t *testing.T, name string, got api.Cc, e api.Errno, want api.Errno) {
	t.Helper()
	if e != want || !same(got, api.Cc{}) {
		t.Errorf("%s: %+v, %d, want error %d", name, got, e, want)
	}
}

// entries answers entries of times and values, by turns.
func entries(x ...int) []api.Entry {
	var l []api.Entry
	for i := 0; i < len(x); i += 2 {
		l = append(l, api.Entry{At: x[i], V: x[i+1]})
	}
	return l
}

// rates answers c with Bw set.
func rates(c api.Cc, x ...int) api.Cc {
	c.Bw = entries(x...)
	return c
}

// with answers c with fields set: names and numbers by turns.
func with(c api.Cc, pairs ...any) api.Cc {
	set(reflect.ValueOf(&c).Elem(), pairs)
	return c
}

// set sets fields of a struct.
func set(v reflect.Value, pairs []any) {
	for i := 0; i < len(pairs); i += 2 {
		v.FieldByName(pairs[i].(string)).SetInt(int64(pairs[i+1].(int)))
	}
}

// usualReno is one in congestion avoidance.
func usualReno() api.Cc {
	return api.Cc{Kind: api.Reno, Mss: 10, Cwnd: 80, Ssthresh: 70, Acc: 5}
}

// usualCubic is one on its curve.
func usualCubic() api.Cc {
	return api.Cc{
		Kind: api.Cubic, Mss: 10, Cwnd: 80, Ssthresh: 70, Acc: 5, Wmax: 100, Epoch: 4 * second, K: 1957, West: 75, Start: 70,
	}
}

// usualBbr has found what its path holds: 100 bytes, by 1000000 bytes a second and 100 microseconds.
func usualBbr() api.Cc {
	return api.Cc{
		Kind: api.Bbr, Mss: 10, Cwnd: 80, Ssthresh: size,
		Mode: api.ProbeBw, Bw: entries(45, 1000000, 48, 900000), MinRtt: 100, MinAt: 5 * second, Round: 50, NextAt: 9000,
		Full: 1000000, FullN: 3, Phase: 4, PhaseAt: 6 * second, Prior: 70,
	}
}

func usuals() []api.Cc { return []api.Cc{usualReno(), usualCubic(), usualBbr()} }

// The chapter's example.
func TestExample(t *testing.T) {
	c := api.Cc{Kind: api.Reno, Mss: 100, Cwnd: 1000, Ssthresh: size}
	if got := cc.Pace(c, 100000, 0); got != 20000 {
		t.Errorf("Pace %d, want 20000", got)
	}
}

// P19.1: Check

// state is a controller, and whether it may be.
type state struct {
	name string
	c    api.Cc
	may  bool
}

// span is a field's limits.
type span struct {
	name        string
	least, last int
}

// spans are the limits of all fields but Kind and Bw, in the usual one of a kind.
func spans(kind api.CcKind) []span {
	curve := []span{{"Wmax", 0, size}, {"Epoch", -1, late}, {"K", 0, mostK}, {"West", 0, size}, {"Start", 0, size}}
	path := []span{
		{"Mode", 1, 4}, {"MinRtt", 0, late}, {"MinAt", 0, late}, {"Round", 48, late}, {"NextAt", 0, late}, {"Full", 0, fastest},
		{"FullN", 0, 3}, {"Phase", 0, 7}, {"PhaseAt", 0, late}, {"DoneAt", 0, late}, {"Prior", 0, size},
	}
	all := []span{{"Mss", 1, 35}, {"Cwnd", 10, size}, {"Ssthresh", 20, size}, {"Acc", 0, size}}
	if kind == api.Bbr {
		all = []span{{"Mss", 1, 80}, {"Cwnd", 10, size}, {"Ssthresh", size, size}, {"Acc", 0, 0}}
	}
	return append(append(all, zeroUnless(kind == api.Cubic, curve)...), zeroUnless(kind == api.Bbr, path)...)
}

// zeroUnless answers limits, or such as let nothing but 0.
func zeroUnless(own bool, l []span) []span {
	for i := range l {
		if !own {
			l[i].least, l[i].last = 0, 0
		}
	}
	return l
}

// edges are controllers of each kind with one field about its limits: each in turn.
func edges() []state {
	var l []state
	for _, c := range usuals() {
		for _, f := range spans(c.Kind) {
			for _, x := range []int{math.MinInt, -1 << 32, -2, -1, f.least - 1, f.last + 1, 2*f.last + 1, f.last + 1<<32, f.last + 1<<52, math.MaxInt} {
				if x < f.least || x > f.last {
					l = append(l, state{f.name + " is out", with(c, f.name, x), false})
				}
			}
			for _, x := range []int{f.least, f.least + 1, (f.least + f.last) / 2, f.last - 1, f.last} {
				if x >= f.least && x <= f.last {
					l = append(l, state{f.name + " is in", with(c, f.name, x), true})
				}
			}
		}
	}
	return l
}

// wide are controllers with several fields at limits, or with other rates.
func wide() []state {
	greatest := api.Cc{
		Kind: api.Bbr, Mss: most, Cwnd: size, Ssthresh: size, Mode: api.ProbeRtt, Bw: entries(late, fastest), MinRtt: late,
		MinAt: late, Round: late, NextAt: late, Full: fastest, FullN: 3, Phase: 7, PhaseAt: late, DoneAt: late, Prior: size,
	}
	b := usualBbr()
	return []state{
		{"Reno", usualReno(), true},
		{"CUBIC", usualCubic(), true},
		{"BBR", b, true},
		{"the zero value", api.Cc{}, false},
		{"Reno, Kind alone", api.Cc{Kind: api.Reno}, false},
		{"CUBIC, Kind alone", api.Cc{Kind: api.Cubic}, false},
		{"BBR, Kind alone", api.Cc{Kind: api.Bbr}, false},
		{"Reno, all least", api.Cc{Kind: api.Reno, Mss: 1, Cwnd: 1, Ssthresh: 2}, true},
		{"CUBIC, all least", api.Cc{Kind: api.Cubic, Mss: 1, Cwnd: 1, Ssthresh: 2, Epoch: -1}, true},
		{"BBR, all least", api.Cc{Kind: api.Bbr, Mss: 1, Cwnd: 1, Ssthresh: size, Mode: api.Startup}, true},
		{"Reno, all greatest", api.Cc{Kind: api.Reno, Mss: most, Cwnd: size, Ssthresh: size, Acc: size}, true},
		{"CUBIC, all greatest", api.Cc{Kind: api.Cubic, Mss: most, Cwnd: size, Ssthresh: size, Acc: size, Wmax: size, Epoch: late, K: mostK, West: size, Start: size}, true},
		{"BBR, all greatest", greatest, true},
		{"Mss one past MaxMss", api.Cc{Kind: api.Reno, Mss: most + 1, Cwnd: size, Ssthresh: size}, false},
		{"Reno with an entry", rates(usualReno(), 0, 0), false},
		{"CUBIC with an entry", rates(usualCubic(), 0, 0), false},
		{"BBR without one", rates(b), true},
		{"BBR, rate above MaxRate", rates(b, 48, fastest+1), false},
		{"BBR, rate -1", rates(b, 48, -1), false},
		{"BBR, rates rise", rates(b, 45, 900000, 48, 1000000), false},
		{"BBR, times alike", rates(b, 48, 1000000, 48, 900000), false},
		{"BBR, a rate later than Round", rates(b, 51, 5), false},
		{"BBR, a rate at Round", rates(b, 50, 5), true},
	}
}

// strangers are controllers of a Kind that is none, or that is not theirs.
func strangers() []state {
	var l []state
	for _, c := range usuals() {
		for _, kind := range []int{math.MinInt, -3, -2, -1, 0, 4, 5, 257, 258, 259, 1<<32 + 1, 1<<32 + 2, 1<<32 + 3, math.MaxInt} {
			l = append(l, state{"no Kind", with(c, "Kind", kind), false})
		}
	}
	return append(l,
		// CUBIC's curve may have begun at 0, with all else of it 0.
		state{"Reno's as CUBIC's", with(usualReno(), "Kind", 2), true},
		state{"Reno's as BBR's", with(usualReno(), "Kind", 3), false},
		state{"CUBIC's as Reno's", with(usualCubic(), "Kind", 1), false},
		state{"CUBIC's as BBR's", with(usualCubic(), "Kind", 3), false},
		state{"BBR's as Reno's", with(usualBbr(), "Kind", 1), false},
		state{"BBR's as CUBIC's", with(usualBbr(), "Kind", 2), false},
		state{"a new one of CUBIC as Reno's", api.Cc{Kind: api.Reno, Mss: 10, Cwnd: 20, Ssthresh: size, Epoch: -1}, false},
		state{"a new one of BBR as Reno's", api.Cc{Kind: api.Reno, Mss: 10, Cwnd: 20, Ssthresh: size, Mode: api.Startup}, false},
		state{"a new one of Reno as BBR's", api.Cc{Kind: api.Bbr, Mss: 10, Cwnd: 20, Ssthresh: size}, false},
	)
}

func all() []state { return append(append(edges(), wide()...), strangers()...) }

// right answers those that may be, wrong those that may not.
func right() []state { return picked(true) }
func wrong() []state { return picked(false) }

func picked(may bool) []state {
	var l []state
	for _, s := range all() {
		if s.may == may {
			l = append(l, s)
		}
	}
	return l
}

func TestCheck(t *testing.T) {
	for _, s := range all() {
		want := api.ErrState
		if s.may {
			want = api.OK
		}
		if got := cc.Check(s.c); got != want {
			t.Errorf("%s: Check(%+v) = %d, want %d", s.name, s.c, got, want)
		}
	}
}

// The edges leave out Kind and Bw alone.
func TestEachFieldIsAsked(t *testing.T) {
	for _, c := range usuals() {
		names := map[string]bool{}
		for _, f := range spans(c.Kind) {
			names[f.name] = true
		}
		if want := reflect.TypeFor[api.Cc]().NumField() - 2; len(names) != want {
			t.Errorf("Kind %d: %d fields, want %d", c.Kind, len(names), want)
		}
	}
}

// P19.1: New

// newOf answers what New must answer of a kind.
func newOf(kind api.CcKind, mss, first int) api.Cc {
	c := api.Cc{Kind: kind, Mss: mss, Cwnd: first * mss, Ssthresh: size}
	switch kind {
	case api.Cubic:
		c.Epoch = -1
	case api.Bbr:
		c.Mode = api.Startup
	}
	return c
}

func TestNew(t *testing.T) {
	for _, kind := range []api.CcKind{api.Reno, api.Cubic, api.Bbr} {
		for _, mss := range []int{math.MinInt, -1, 0, 1, 2, 10, 1460, most - 1, most, most + 1, 1<<32 + 10, math.MaxInt} {
			for _, first := range []int{math.MinInt, -1, 0, 1, 2, 10, 99, 100, 101, 1<<32 + 10, math.MaxInt} {
				got, e := cc.New(kind, mss, first)
				if mss < 1 || mss > most || first < 1 || first > 100 {
					refused(t, "New", got, e, api.ErrArg)
				} else {
					is(t, "New", got, e, newOf(kind, mss, first))
				}
			}
		}
	}
}

func TestNewOfNoKind(t *testing.T) {
	for _, kind := range []api.CcKind{math.MinInt, -3, -2, -1, 0, 4, 5, 257, 258, 259, 1<<32 + 1, 1<<32 + 2, 1<<32 + 3, math.MaxInt} {
		for _, mss := range []int{-1, 0, 1, 10, most, most + 1} {
			for _, first := range []int{-1, 0, 1, 10, 100, 101} {
				got, e := cc.New(kind, mss, first)
				refused(t, "New", got, e, api.ErrArg)
			}
		}
	}
}

// R2: what may not be is named ahead of numbers that may not be, by each call.
func TestOthersAreRefused(t *testing.T) {
	for _, x := range wrong() {
		for _, n := range []int{math.MinInt, -1, 0, 1, 5000, size, size + 1, late, late + 1, math.MaxInt} {
			for _, s := range []api.Sample{{}, {Acked: n}, {Now: n}, {Rate: n}, {Acked: n, Now: n, Rtt: n, Rate: n, Given: n, Before: n, Flight: n}} {
				got, e := cc.Acked(x.c, s, n)
				refused(t, x.name+": Acked", got, e, api.ErrState)
				s.Idle = true
				got, e = cc.Acked(x.c, s, 5)
				refused(t, x.name+": Acked, idle", got, e, api.ErrState)
			}
			got, e := cc.Loss(x.c, n)
			refused(t, x.name+": Loss", got, e, api.ErrState)
			got, e = cc.Timeout(x.c, n)
			refused(t, x.name+": Timeout", got, e, api.ErrState)
			got, e = cc.Done(x.c)
			refused(t, x.name+": Done", got, e, api.ErrState)
			for _, args := range [][3]int{{n, 5, 5}, {5, n, 5}, {5, 5, n}, {n, n, n}, {5000, 1000, 0}} {
				got, e = cc.Rest(x.c, args[0], args[1], args[2])
				refused(t, x.name+": Rest", got, e, api.ErrState)
			}
			got, e = cc.Limit(x.c, n)
			refused(t, x.name+": Limit", got, e, api.ErrState)
			if a, b, c := cc.Pace(x.c, n, 5), cc.Pace(x.c, 100000, n), cc.Pace(x.c, n, n); a != 0 || b != 0 || c != 0 {
				t.Errorf("%s: Pace %d, %d, %d, want 0", x.name, a, b, c)
			}
		}
	}
}
