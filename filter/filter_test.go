package filter_test

import (
	"math"
	"slices"
	"testing"

	"tideway/api"
	"tideway/filter"
)

const (
	top  = api.MaxTime
	peak = 1 << 60
)

// row makes entries of times and values in turn.
func row(numbers ...int) []api.Entry {
	var l []api.Entry
	for i := 0; i < len(numbers); i += 2 {
		l = append(l, api.Entry{At: numbers[i], V: numbers[i+1]})
	}
	return l
}

// is asks that entries are the wanted ones, and that there was no error.
func is(t *testing.T, name string, got []api.Entry, e api.Errno, want []api.Entry) {
	t.Helper()
	if e != api.OK || !slices.Equal(got, want) {
		t.Errorf("%s: %v, %d, want %v", name, got, e, want)
	}
}

// refused asks that a call answered ErrArg, and nothing besides.
func refused(t *testing.T, name string, got []api.Entry, e api.Errno) {
	t.Helper()
	if e != api.ErrArg || len(got) != 0 {
		t.Errorf("%s: %v, %d, want error %d", name, got, e, api.ErrArg)
	}
}

// best asks for the best value.
func best(t *testing.T, name string, l []api.Entry, want int, found bool) {
	t.Helper()
	if v, ok := filter.Best(l); v != want || ok != found {
		t.Errorf("%s: Best(%v) = %d, %t, want %d, %t", name, l, v, ok, want, found)
	}
}

// The chapter's example.
func TestExample(t *testing.T) {
	l, e := filter.Put(nil, 0, 5, 10, true)
	is(t, "Put 0 5", l, e, row(0, 5))
	l, e = filter.Put(l, 3, 4, 10, true)
	is(t, "Put 3 4", l, e, row(0, 5, 3, 4))
	l, e = filter.Put(l, 4, 4, 10, true)
	is(t, "Put 4 4", l, e, row(0, 5, 4, 4))
	l, e = filter.Put(l, 11, 1, 10, true)
	is(t, "Put 11 1", l, e, row(4, 4, 11, 1))
}

// P12.1: Check

// rows are entries, and whether they may be with most, and without.
func rows() []struct {
	name           string
	l              []api.Entry
	greats, leasts bool
} {
	return []struct {
		name           string
		l              []api.Entry
		greats, leasts bool
	}{
		{"nil", nil, true, true},
		{"none", []api.Entry{}, true, true},
		{"one", row(5, 6), true, true},
		{"one of noughts", row(0, 0), true, true},
		{"falling", row(1, 9, 4, 8, 9, 2), true, false},
		{"rising", row(1, 2, 4, 8, 9, 9), false, true},

		{"At far below 0", row(math.MinInt, 6), false, false},
		{"At -1", row(-1, 6), false, false},
		{"At 0", row(0, 6), true, true},
		{"At one below MaxTime", row(top-1, 6), true, true},
		{"At MaxTime", row(top, 6), true, true},
		{"At one past MaxTime", row(top+1, 6), false, false},
		{"At far past MaxTime", row(math.MaxInt, 6), false, false},
		{"At -1 first, falling", row(-1, 6, 3, 5), false, false},
		{"At -1 first, rising", row(-1, 5, 3, 6), false, false},
		{"At one past MaxTime last, falling", row(3, 6, top+1, 5), false, false},
		{"At one past MaxTime last, rising", row(3, 5, top+1, 6), false, false},
		{"At from 0 to MaxTime, falling", row(0, 6, top, 5), true, false},
		{"At from 0 to MaxTime, rising", row(0, 5, top, 6), false, true},

		{"two At alike, falling", row(4, 6, 4, 5), false, false},
		{"two At alike, rising", row(4, 5, 4, 6), false, false},
		{"At one lower, falling", row(4, 6, 3, 5), false, false},
		{"At one lower, rising", row(4, 5, 3, 6), false, false},
		{"At one higher, falling", row(4, 6, 5, 5), true, false},
		{"At one higher, rising", row(4, 5, 5, 6), false, true},
		{"the last two At alike, falling", row(1, 9, 4, 6, 4, 5), false, false},
		{"the last two At alike, rising", row(1, 4, 4, 5, 4, 6), false, false},
		{"the last At lower than that ahead, not than the first", row(1, 9, 6, 6, 4, 5), false, false},

		{"V far below 0", row(5, math.MinInt), false, false},
		{"V -1", row(5, -1), false, false},
		{"V 0", row(5, 0), true, true},
		{"V one below 2^60", row(5, peak-1), true, true},
		{"V 2^60", row(5, peak), true, true},
		{"V one past 2^60", row(5, peak+1), false, false},
		{"V far past 2^60", row(5, math.MaxInt), false, false},
		{"V -1 last, falling", row(5, 0, 6, -1), false, false},
		{"V -1 first, rising", row(5, -1, 6, 0), false, false},
		{"V one past 2^60 first, falling", row(5, peak+1, 6, peak), false, false},
		{"V one past 2^60 last, rising", row(5, peak, 6, peak+1), false, false},
		{"V from 2^60 down to 0", row(5, peak, 6, 0), true, false},
		{"V from 0 up to 2^60", row(5, 0, 6, peak), false, true},

		{"two V alike", row(4, 5, 6, 5), false, false},
		{"two V 0", row(4, 0, 6, 0), false, false},
		{"V one lower", row(4, 5, 6, 4), true, false},
		{"V one higher", row(4, 5, 6, 6), false, true},
		{"the last two V alike, falling", row(4, 9, 6, 5, 7, 5), false, false},
		{"the last two V alike, rising", row(4, 2, 6, 5, 7, 5), false, false},
		{"V down and up", row(4, 9, 6, 5, 7, 6), false, false},
		{"V up and down", row(4, 2, 6, 5, 7, 4), false, false},

		{"all far below 0", row(math.MinInt, math.MinInt), false, false},
		{"all far above", row(math.MaxInt, math.MaxInt), false, false},
	}
}

func TestCheck(t *testing.T) {
	for _, c := range rows() {
		for _, most := range []bool{true, false} {
			want := api.ErrArg
			if most && c.greats || !most && c.leasts {
				want = api.OK
			}
			if got := filter.Check(c.l, most); got != want {
				t.Errorf("%s: Check(%v, %t) = %d, want %d", c.name, c.l, most, got, want)
			}
		}
	}
}

// P12.1: Put

func TestPutTakesWhatCheckTakes(t *testing.T) {
	for _, c := range rows() {
		for _, most := range []bool{true, false} {
			if len(c.l) > 0 && c.l[len(c.l)-1].At == top {
				continue // no time is above that one
			}
			got, e := filter.Put(c.l, top, 5, top, most)
			if most && c.greats || !most && c.leasts {
				if e != api.OK || filter.Check(got, most) != api.OK {
					t.Errorf("%s: Put(%v), most %t: %v, %d", c.name, c.l, most, got, e)
				}
				continue
			}
			refused(t, c.name, got, e)
		}
	}
}

func TestPutRefuses(t *testing.T) {
	one := row(5, 6)
	cases := []struct {
		name          string
		l             []api.Entry
		at, v, window int
	}{
		{"at far below 0", nil, math.MinInt, 6, 10},
		{"at -1", nil, -1, 6, 10},
		{"at one past MaxTime", nil, top + 1, 6, 10},
		{"at one past MaxTime behind one", one, top + 1, 6, 10},
		{"at far past MaxTime", nil, math.MaxInt, 6, 10},
		{"at far past MaxTime behind one", one, math.MaxInt, 6, 10},
		{"at -1 behind one", one, -1, 6, 10},
		{"at 0 behind one at 0", row(0, 6), 0, 6, 10},
		{"at one below the last At", one, 4, 6, 10},
		{"at the last At", one, 5, 6, 10},
		{"at the last At, a greater value", one, 5, 7, 10},
		{"at the last At, a lesser value", one, 5, 5, 10},
		{"at the last At, window 0", one, 5, 6, 0},
		{"at MaxTime behind one there", row(top, 6), top, 6, 10},
		{"v far below 0", one, 6, math.MinInt, 10},
		{"v -1", one, 6, -1, 10},
		{"v -1 behind none", nil, 6, -1, 10},
		{"v one past 2^60", one, 6, peak + 1, 10},
		{"v one past 2^60 behind none", nil, 6, peak + 1, 10},
		{"v far past 2^60", one, 6, math.MaxInt, 10},
		{"window far below 0", one, 6, 6, math.MinInt},
		{"window -1", one, 6, 6, -1},
		{"window -1 behind none", nil, 6, 6, -1},
		{"window one past MaxTime", one, 6, 6, top + 1},
		{"window one past MaxTime behind none", nil, 6, 6, top + 1},
		{"window far past MaxTime", one, 6, 6, math.MaxInt},
		{"all far below 0", one, math.MinInt, math.MinInt, math.MinInt},
		{"all far above", one, math.MaxInt, math.MaxInt, math.MaxInt},
	}
	for _, c := range cases {
		for _, most := range []bool{true, false} {
			got, e := filter.Put(c.l, c.at, c.v, c.window, most)
			refused(t, c.name, got, e)
		}
	}
}

func TestPutAboveTheLastOfSeveral(t *testing.T) {
	for at := range 8 {
		got, e := filter.Put(row(1, 9, 4, 8, 6, 7), at, 5, 10, true)
		if at <= 6 {
			refused(t, "Put among others", got, e)
			continue
		}
		is(t, "Put behind the others", got, e, row(1, 9, 4, 8, 6, 7, at, 5))
	}
}

func TestPut(t *testing.T) {
	cases := []struct {
		name          string
		l             []api.Entry
		at, v, window int
		most          bool
		want          []api.Entry
	}{
		{"behind none", nil, 5, 6, 10, true, row(5, 6)},
		{"behind none, least", []api.Entry{}, 5, 6, 10, false, row(5, 6)},
		{"noughts", nil, 0, 0, 0, true, row(0, 0)},
		{"noughts, least", nil, 0, 0, 0, false, row(0, 0)},
		{"at MaxTime", row(5, 6), top, 4, top, true, row(5, 6, top, 4)},
		{"at MaxTime behind one below it", row(top-1, 6), top, 4, 1, true, row(top-1, 6, top, 4)},
		{"all greatest", nil, top, peak, top, true, row(top, peak)},
		{"at one above the last At", row(5, 6), 6, 4, 10, true, row(5, 6, 6, 4)},
		{"v 0", row(5, 6), 7, 0, 10, true, row(5, 6, 7, 0)},
		{"v 0, least", row(5, 6), 7, 0, 10, false, row(7, 0)},
		{"v 2^60", row(5, 6), 7, peak, 10, true, row(7, peak)},
		{"v 2^60, least", row(5, 6), 7, peak, 10, false, row(5, 6, 7, peak)},

		{"At and window one below at", row(5, 6), 16, 4, 10, true, row(16, 4)},
		{"At and window at at", row(5, 6), 15, 4, 10, true, row(5, 6, 15, 4)},
		{"At and window one above at", row(5, 6), 14, 4, 10, true, row(5, 6, 14, 4)},
		{"At and window one below at, least", row(5, 6), 16, 8, 10, false, row(16, 8)},
		{"At and window at at, least", row(5, 6), 15, 8, 10, false, row(5, 6, 15, 8)},
		{"At and window one above at, least", row(5, 6), 14, 8, 10, false, row(5, 6, 14, 8)},
		{"At 0, window one below MaxTime, at MaxTime", row(0, 6), top, 4, top - 1, true, row(top, 4)},
		{"At 0, window MaxTime, at MaxTime", row(0, 6), top, 4, top, true, row(0, 6, top, 4)},
		{"window 0", row(5, 6), 6, 4, 0, true, row(6, 4)},
		{"window 0 behind several", row(3, 8, 4, 7, 5, 6), 6, 4, 0, true, row(6, 4)},
		{"window 0 behind several, least", row(3, 6, 4, 7, 5, 8), 6, 9, 0, false, row(6, 9)},
		{"window 1", row(4, 7, 5, 6), 6, 4, 1, true, row(5, 6, 6, 4)},

		{"the last V one below v", row(5, 6), 7, 7, 10, true, row(7, 7)},
		{"the last V at v", row(5, 6), 7, 6, 10, true, row(7, 6)},
		{"the last V one above v", row(5, 6), 7, 5, 10, true, row(5, 6, 7, 5)},
		{"the last V one above v, least", row(5, 6), 7, 5, 10, false, row(7, 5)},
		{"the last V at v, least", row(5, 6), 7, 6, 10, false, row(7, 6)},
		{"the last V one below v, least", row(5, 6), 7, 7, 10, false, row(5, 6, 7, 7)},

		{"several at the front", row(1, 9, 2, 8, 3, 7, 9, 6), 14, 2, 10, true, row(9, 6, 14, 2)},
		{"several at the end", row(1, 9, 2, 8, 3, 7, 4, 6), 5, 8, 10, true, row(1, 9, 5, 8)},
		{"one at the end", row(1, 9, 2, 8, 3, 7, 4, 5), 5, 6, 10, true, row(1, 9, 2, 8, 3, 7, 5, 6)},
		{"both", row(1, 9, 2, 8, 3, 7, 4, 6, 5, 5), 13, 6, 10, true, row(3, 7, 13, 6)},
		{"both, none left", row(1, 9, 2, 8, 3, 7, 4, 6), 13, 7, 10, true, row(13, 7)},
		{"all at the front", row(1, 9, 2, 8, 3, 7), 14, 2, 10, true, row(14, 2)},
		{"all at the end", row(1, 9, 2, 8, 3, 7), 4, 9, 10, true, row(4, 9)},
		{"all at the front and at the end", row(1, 9, 2, 8, 3, 7), 14, 10, 10, true, row(14, 10)},
		{"none", row(1, 9, 2, 8, 3, 7), 11, 6, 10, true, row(1, 9, 2, 8, 3, 7, 11, 6)},

		{"several at the front, least", row(1, 2, 2, 3, 3, 4, 9, 5), 14, 8, 10, false, row(9, 5, 14, 8)},
		{"several at the end, least", row(1, 2, 2, 3, 3, 4, 4, 5), 5, 3, 10, false, row(1, 2, 5, 3)},
		{"both, least", row(1, 2, 2, 3, 3, 4, 4, 5, 5, 6), 13, 5, 10, false, row(3, 4, 13, 5)},
		{"all at the front, least", row(1, 2, 2, 3, 3, 4), 14, 8, 10, false, row(14, 8)},
		{"all at the end, least", row(1, 2, 2, 3, 3, 4), 4, 2, 10, false, row(4, 2)},
		{"none, least", row(1, 2, 2, 3, 3, 4), 11, 5, 10, false, row(1, 2, 2, 3, 3, 4, 11, 5)},
	}
	for _, c := range cases {
		got, e := filter.Put(c.l, c.at, c.v, c.window, c.most)
		is(t, c.name, got, e, c.want)
	}
}

// R3: what is handed in stays as it was, its room behind its end too, and the answer shares none of it.
func TestPutLeavesItsArgument(t *testing.T) {
	cases := []struct {
		name          string
		at, v, window int
	}{
		{"none goes", 20, 1, 50},
		{"some go at the front", 20, 1, 17},
		{"some go at the end", 20, 7, 50},
		{"some go at both", 20, 7, 18},
		{"all go", 20, 1, 0},
		{"all go at the end", 20, 9, 50},
		{"refused", 1, 9, 50},
	}
	for _, c := range cases {
		whole := row(1, 9, 2, 8, 3, 7, 4, 6, 90, 91, 92, 93)
		before := slices.Clone(whole)
		got, _ := filter.Put(whole[:4], c.at, c.v, c.window, true)
		if !slices.Equal(whole, before) {
			t.Errorf("%s: what was handed in is now %v, was %v", c.name, whole, before)
		}
		got = got[:cap(got)]
		for i := range got {
			got[i] = api.Entry{At: -7, V: -7}
		}
		if !slices.Equal(whole, before) {
			t.Errorf("%s: the answer shares memory with what was handed in", c.name)
		}
	}
}

func TestPutTwiceOnOneRow(t *testing.T) {
	l, e := filter.Put(row(1, 9), 2, 8, 10, true)
	is(t, "the row", l, e, row(1, 9, 2, 8))
	one, e := filter.Put(l, 3, 5, 10, true)
	is(t, "one", one, e, row(1, 9, 2, 8, 3, 5))
	other, e := filter.Put(l, 4, 6, 10, true)
	is(t, "other", other, e, row(1, 9, 2, 8, 4, 6))
	is(t, "one behind the other", one, e, row(1, 9, 2, 8, 3, 5))
	is(t, "the row behind both", l, e, row(1, 9, 2, 8))
}

// P12.1: Best

func TestBest(t *testing.T) {
	best(t, "nil", nil, 0, false)
	best(t, "none", []api.Entry{}, 0, false)
	best(t, "none, with room", row(1, 9)[:0], 0, false)
	best(t, "one", row(5, 6), 6, true)
	best(t, "one of noughts", row(0, 0), 0, true)
	best(t, "one of 2^60", row(top, peak), peak, true)
	best(t, "several, falling", row(1, 9, 2, 8, 3, 7), 9, true)
	best(t, "several, rising", row(1, 2, 2, 3, 3, 4), 2, true)
	best(t, "such as may not be", row(9, -3, 1, 8), -3, true)
}
