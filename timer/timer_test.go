package timer_test

import (
	"cmp"
	"math"
	"slices"
	"testing"

	"tideway/api"
	"tideway/timer"
)

// edgeKinds are kinds about which the least and the greatest one go wrong.
func edgeKinds() []api.TimerKind {
	return []api.TimerKind{math.MinInt, -1, 0, 1, 2, 3, 4, 5, 6, 7, math.MaxInt}
}

// edgeTimes are times about which 0 and the greatest one go wrong.
func edgeTimes() []int {
	return []int{math.MinInt, -1, 0, 1, 1000, api.MaxTime - 1, api.MaxTime, api.MaxTime + 1, math.MaxInt}
}

// mayBe tells by P4.1's words whether a kind and a time may be.
func mayBe(kind api.TimerKind, at int) bool {
	return slices.Contains([]api.TimerKind{1, 2, 3, 4, 5}, kind) && 0 <= at && at <= 1<<50
}

// rows answers every row of timers that may be, with these times.
func rows(times ...int) [][]api.Timer {
	out := [][]api.Timer{nil}
	for kind := api.TimerKind(1); kind <= 5; kind++ {
		for _, l := range out {
			for _, at := range times {
				out = append(out, append(slices.Clone(l), api.Timer{Kind: kind, At: at}))
			}
		}
	}
	return out
}

// wrongRows are rows that may not be, by name.
func wrongRows() map[string][]api.Timer {
	return map[string][]api.Timer{
		"kind 0":                  {{Kind: 0, At: 5}},
		"kind 6":                  {{Kind: 6, At: 5}},
		"kind -1":                 {{Kind: -1, At: 5}},
		"least kind":              {{Kind: math.MinInt, At: 5}},
		"greatest kind":           {{Kind: math.MaxInt, At: 5}},
		"time -1":                 {{Kind: 1, At: -1}},
		"time beyond MaxTime":     {{Kind: 1, At: api.MaxTime + 1}},
		"least time":              {{Kind: 5, At: math.MinInt}},
		"greatest time":           {{Kind: 5, At: math.MaxInt}},
		"a kind twice":            {{Kind: 2, At: 5}, {Kind: 2, At: 5}},
		"a kind twice, apart":     {{Kind: 2, At: 5}, {Kind: 3, At: 5}, {Kind: 2, At: 5}},
		"the last kind twice":     {{Kind: 5, At: 1}, {Kind: 5, At: 2}},
		"falling kinds":           {{Kind: 3, At: 1}, {Kind: 2, At: 2}},
		"falling at the end":      {{Kind: 1, At: 1}, {Kind: 2, At: 2}, {Kind: 5, At: 3}, {Kind: 4, At: 4}},
		"kind 0 ahead":            {{Kind: 0, At: 1}, {Kind: 1, At: 1}},
		"kind 6 behind":           {{Kind: 1, At: 1}, {Kind: 6, At: 1}},
		"a wrong time behind":     {{Kind: 1, At: 1}, {Kind: 2, At: -1}},
		"a wrong time between":    {{Kind: 1, At: 1}, {Kind: 2, At: api.MaxTime + 1}, {Kind: 3, At: 1}},
		"six timers":              {{Kind: 1}, {Kind: 2}, {Kind: 3}, {Kind: 4}, {Kind: 5}, {Kind: 6}},
		"zero values":             {{}, {}},
		"one zero value":          {{}},
		"all five, the other way": {{Kind: 5}, {Kind: 4}, {Kind: 3}, {Kind: 2}, {Kind: 1}},
	}
}

// wantOthers answers by P4.1's words l without a kind.
func wantOthers(l []api.Timer, kind api.TimerKind) []api.Timer {
	return slices.DeleteFunc(slices.Clone(l), func(x api.Timer) bool { return x.Kind == kind })
}

// wantSet answers by P4.1's words l where a kind's time is at.
func wantSet(l []api.Timer, kind api.TimerKind, at int) []api.Timer {
	out := append(wantOthers(l, kind), api.Timer{Kind: kind, At: at})
	slices.SortFunc(out, func(a, b api.Timer) int { return cmp.Compare(a.Kind, b.Kind) })
	return out
}

// byTime answers timers in the order in which P4.3 says that they go off.
func byTime(l []api.Timer) []api.Timer {
	out := slices.Clone(l)
	slices.SortFunc(out, func(a, b api.Timer) int {
		return cmp.Or(cmp.Compare(a.At, b.At), cmp.Compare(a.Kind, b.Kind))
	})
	return out
}

// P4.1

func TestCheck(t *testing.T) {
	for _, c := range []struct {
		name string
		l    []api.Timer
	}{
		{"nil", nil},
		{"none", []api.Timer{}},
		{"the least of all", []api.Timer{{Kind: 1, At: 0}}},
		{"the greatest of all", []api.Timer{{Kind: 5, At: 1 << 50}}},
		{"two apart", []api.Timer{{Kind: 1, At: 9}, {Kind: 5, At: 3}}},
		{"one time", []api.Timer{{Kind: 2, At: 9}, {Kind: 3, At: 9}}},
		{"all five", []api.Timer{{Kind: api.TimReorder, At: 5}, {Kind: api.TimProbe, At: 4}, {Kind: api.TimResend, At: 0}, {Kind: api.TimPersist, At: 1 << 50}, {Kind: api.TimPace, At: 4}}},
		{"a wrong one behind the end", []api.Timer{{Kind: 1, At: 9}, {Kind: 1, At: -1}}[:1]},
	} {
		if e := timer.Check(c.l); e != api.OK {
			t.Errorf("Check(%s) = %d, want OK", c.name, e)
		}
	}
	for name, l := range wrongRows() {
		if e := timer.Check(l); e != api.ErrTimer {
			t.Errorf("Check(%s) = %d, want ErrTimer", name, e)
		}
	}
}

func TestCheckEverywhere(t *testing.T) {
	for _, l := range rows(0, 7, api.MaxTime) {
		if e := timer.Check(l); e != api.OK {
			t.Fatalf("Check(%v) = %d, want OK", l, e)
		}
	}
	for _, a := range edgeKinds() {
		for _, at := range edgeTimes() {
			want := api.ErrTimer
			if mayBe(a, at) {
				want = api.OK
			}
			if l := []api.Timer{{Kind: a, At: at}}; timer.Check(l) != want {
				t.Errorf("Check(%v) = %d, want %d", l, timer.Check(l), want)
			}
			for _, b := range edgeKinds() {
				l := []api.Timer{{Kind: a, At: 3}, {Kind: b, At: at}}
				want := api.ErrTimer
				if mayBe(a, 3) && mayBe(b, at) && a < b {
					want = api.OK
				}
				if e := timer.Check(l); e != want {
					t.Errorf("Check(%v) = %d, want %d", l, e, want)
				}
			}
		}
	}
}

func TestSet(t *testing.T) {
	two := []api.Timer{{Kind: 2, At: 20}, {Kind: 4, At: 40}}
	for _, c := range []struct {
		name string
		l    []api.Timer
		kind api.TimerKind
		at   int
		want []api.Timer
	}{
		{"the first", nil, 3, 9, []api.Timer{{Kind: 3, At: 9}}},
		{"the first at 0", []api.Timer{}, 1, 0, []api.Timer{{Kind: 1, At: 0}}},
		{"the first at MaxTime", nil, 5, 1 << 50, []api.Timer{{Kind: 5, At: 1 << 50}}},
		{"ahead", two, 1, 90, []api.Timer{{Kind: 1, At: 90}, {Kind: 2, At: 20}, {Kind: 4, At: 40}}},
		{"between", two, 3, 0, []api.Timer{{Kind: 2, At: 20}, {Kind: 3, At: 0}, {Kind: 4, At: 40}}},
		{"behind", two, 5, 1, []api.Timer{{Kind: 2, At: 20}, {Kind: 4, At: 40}, {Kind: 5, At: 1}}},
		{"one that runs, later", two, 2, 21, []api.Timer{{Kind: 2, At: 21}, {Kind: 4, At: 40}}},
		{"one that runs, sooner", two, 4, 0, []api.Timer{{Kind: 2, At: 20}, {Kind: 4, At: 0}}},
		{"one that runs, at its time", two, 4, 40, two},
	} {
		got, e := timer.Set(c.l, c.kind, c.at)
		if e != api.OK || !slices.Equal(got, c.want) {
			t.Errorf("Set(%s) = %v, %d, want %v", c.name, got, e, c.want)
		}
	}
}

func TestSetEverywhere(t *testing.T) {
	for _, l := range rows(0, 7) {
		for _, kind := range edgeKinds() {
			for _, at := range edgeTimes() {
				got, e := timer.Set(l, kind, at)
				if !mayBe(kind, at) {
					if e != api.ErrArg || len(got) != 0 {
						t.Fatalf("Set(%v, %d, %d) = %v, %d, want ErrArg", l, kind, at, got, e)
					}
					continue
				}
				if want := wantSet(l, kind, at); e != api.OK || !slices.Equal(got, want) {
					t.Fatalf("Set(%v, %d, %d) = %v, %d, want %v", l, kind, at, got, e, want)
				}
				if timer.Check(got) != api.OK {
					t.Fatalf("Set(%v, %d, %d) = %v, which may not be", l, kind, at, got)
				}
				if when, runs := timer.When(got, kind); when != at || !runs {
					t.Fatalf("When(%v, %d) = %d, %t, was set to %d", got, kind, when, runs, at)
				}
			}
		}
	}
}

func TestStop(t *testing.T) {
	three := []api.Timer{{Kind: 1, At: 30}, {Kind: 3, At: 20}, {Kind: 5, At: 10}}
	for _, c := range []struct {
		name string
		l    []api.Timer
		kind api.TimerKind
		want []api.Timer
	}{
		{"the first", three, 1, three[1:]},
		{"one between", three, 3, []api.Timer{{Kind: 1, At: 30}, {Kind: 5, At: 10}}},
		{"the last", three, 5, three[:2]},
		{"one that doesn't run", three, 2, three},
		{"the only one", three[:1], 1, nil},
		{"of none", nil, 1, nil},
		{"of none, empty", []api.Timer{}, 5, nil},
	} {
		got, e := timer.Stop(c.l, c.kind)
		if e != api.OK || !slices.Equal(got, c.want) {
			t.Errorf("Stop(%s) = %v, %d, want %v", c.name, got, e, c.want)
		}
	}
}

func TestStopEverywhere(t *testing.T) {
	for _, l := range rows(0, 7) {
		for _, kind := range edgeKinds() {
			got, e := timer.Stop(l, kind)
			if !mayBe(kind, 0) {
				if e != api.ErrArg || len(got) != 0 {
					t.Fatalf("Stop(%v, %d) = %v, %d, want ErrArg", l, kind, got, e)
				}
				continue
			}
			if want := wantOthers(l, kind); e != api.OK || !slices.Equal(got, want) {
				t.Fatalf("Stop(%v, %d) = %v, %d, want %v", l, kind, got, e, want)
			}
			if when, runs := timer.When(got, kind); when != 0 || runs {
				t.Fatalf("When(%v, %d) = %d, %t, was stopped", got, kind, when, runs)
			}
		}
	}
}

// Check's error is told ahead of ErrArg.
func TestSetAndStopOfWrongRows(t *testing.T) {
	for name, l := range wrongRows() {
		for _, kind := range edgeKinds() {
			for _, at := range edgeTimes() {
				if got, e := timer.Set(l, kind, at); e != api.ErrTimer || len(got) != 0 {
					t.Errorf("Set(%s, %d, %d) = %v, %d, want ErrTimer", name, kind, at, got, e)
				}
			}
			if got, e := timer.Stop(l, kind); e != api.ErrTimer || len(got) != 0 {
				t.Errorf("Stop(%s, %d) = %v, %d, want ErrTimer", name, kind, got, e)
			}
		}
	}
}

func TestWhen(t *testing.T) {
	l := []api.Timer{{Kind: 1, At: 0}, {Kind: 3, At: 20}, {Kind: 4, At: 1 << 50}}
	for _, c := range []struct {
		kind api.TimerKind
		at   int
		runs bool
	}{
		{1, 0, true},
		{2, 0, false},
		{3, 20, true},
		{4, 1 << 50, true},
		{5, 0, false},
		{0, 0, false},
		{6, 0, false},
		{-1, 0, false},
		{math.MinInt, 0, false},
		{math.MaxInt, 0, false},
	} {
		if at, runs := timer.When(l, c.kind); at != c.at || runs != c.runs {
			t.Errorf("When(%d) = %d, %t, want %d, %t", c.kind, at, runs, c.at, c.runs)
		}
		if at, runs := timer.When(nil, c.kind); at != 0 || runs {
			t.Errorf("When(%d) of none = %d, %t", c.kind, at, runs)
		}
	}
}

// P4.1 names no error of When: it looks for the kind alone.
func TestWhenOfWrongRows(t *testing.T) {
	for _, c := range []struct {
		name string
		l    []api.Timer
		kind api.TimerKind
		at   int
		runs bool
	}{
		{"falling kinds", []api.Timer{{Kind: 3, At: 1}, {Kind: 2, At: 2}}, 2, 2, true},
		{"a kind twice", []api.Timer{{Kind: 2, At: 5}, {Kind: 2, At: 4}}, 2, 5, true},
		{"a wrong one ahead", []api.Timer{{Kind: 0, At: -1}, {Kind: 2, At: 4}}, 2, 4, true},
		{"another kind", []api.Timer{{Kind: 3, At: 1}, {Kind: 2, At: 2}}, 1, 0, false},
	} {
		if at, runs := timer.When(c.l, c.kind); at != c.at || runs != c.runs {
			t.Errorf("When(%s) = %d, %t, want %d, %t", c.name, at, runs, c.at, c.runs)
		}
	}
}

// P4.2

func TestNext(t *testing.T) {
	for _, c := range []struct {
		name string
		l    []api.Timer
		want api.Timer
		ok   bool
	}{
		{"nil", nil, api.Timer{}, false},
		{"none", []api.Timer{}, api.Timer{}, false},
		{"one", []api.Timer{{Kind: 4, At: 9}}, api.Timer{Kind: 4, At: 9}, true},
		{"one at 0", []api.Timer{{Kind: 1, At: 0}}, api.Timer{Kind: 1, At: 0}, true},
		{"one at MaxTime", []api.Timer{{Kind: 5, At: 1 << 50}}, api.Timer{Kind: 5, At: 1 << 50}, true},
		{"the document's", []api.Timer{{Kind: api.TimReorder, At: 5}, {Kind: api.TimProbe, At: 5}}, api.Timer{Kind: api.TimReorder, At: 5}, true},
		{"the last", []api.Timer{{Kind: 1, At: 9}, {Kind: 2, At: 8}, {Kind: 3, At: 7}}, api.Timer{Kind: 3, At: 7}, true},
		{"the one between", []api.Timer{{Kind: 1, At: 9}, {Kind: 2, At: 0}, {Kind: 3, At: 7}}, api.Timer{Kind: 2, At: 0}, true},
		{"several, not the first", []api.Timer{{Kind: 1, At: 9}, {Kind: 2, At: 7}, {Kind: 4, At: 7}, {Kind: 5, At: 7}}, api.Timer{Kind: 2, At: 7}, true},
		{"all at MaxTime", []api.Timer{{Kind: 2, At: 1 << 50}, {Kind: 3, At: 1 << 50}}, api.Timer{Kind: 2, At: 1 << 50}, true},
	} {
		if got, ok := timer.Next(c.l); got != c.want || ok != c.ok {
			t.Errorf("Next(%s) = %v, %t, want %v, %t", c.name, got, ok, c.want, c.ok)
		}
	}
}

func TestNextAndDueEverywhere(t *testing.T) {
	for _, l := range rows(0, 7, api.MaxTime) {
		var want api.Timer
		if len(l) > 0 {
			want = byTime(l)[0]
		}
		if got, ok := timer.Next(l); got != want || ok != (len(l) > 0) {
			t.Fatalf("Next(%v) = %v, %t, want %v", l, got, ok, want)
		}
		for _, now := range []int{math.MinInt, -1, 0, 1, 6, 7, 8, api.MaxTime - 1, api.MaxTime, api.MaxTime + 1, math.MaxInt} {
			due := len(l) > 0 && want.At <= now
			got, ok := timer.Due(l, now)
			if ok != due || due && got != want || !due && got != (api.Timer{}) {
				t.Fatalf("Due(%v, %d) = %v, %t, want %v, %t", l, now, got, ok, want, due)
			}
		}
	}
}

func TestDue(t *testing.T) {
	l := []api.Timer{{Kind: 2, At: 50}, {Kind: 3, At: 40}, {Kind: 5, At: 40}}
	for _, c := range []struct {
		now int
		ok  bool
	}{
		{math.MinInt, false},
		{-1, false},
		{0, false},
		{39, false},
		{40, true},
		{41, true},
		{50, true},
		{1 << 50, true},
		{1<<50 + 1, true},
		{math.MaxInt, true},
	} {
		want := api.Timer{}
		if c.ok {
			want = api.Timer{Kind: 3, At: 40}
		}
		if got, ok := timer.Due(l, c.now); got != want || ok != c.ok {
			t.Errorf("Due at %d = %v, %t, want %v, %t", c.now, got, ok, want, c.ok)
		}
	}
}

func TestNextAndDueOfWrongRows(t *testing.T) {
	for name, l := range wrongRows() {
		if got, ok := timer.Next(l); got != (api.Timer{}) || ok {
			t.Errorf("Next(%s) = %v, %t, want none", name, got, ok)
		}
		for _, now := range edgeTimes() {
			if got, ok := timer.Due(l, now); got != (api.Timer{}) || ok {
				t.Errorf("Due(%s, %d) = %v, %t, want none", name, now, got, ok)
			}
		}
	}
}

// P4.3

// goOff stops, one by one, the timers that are due, and answers them with those that are left.
func goOff(t *testing.T, l []api.Timer, now int) (off, left []api.Timer) {
	t.Helper()
	for range 9 {
		x, ok := timer.Due(l, now)
		if !ok {
			return off, l
		}
		off = append(off, x)
		rest, e := timer.Stop(l, x.Kind)
		if e != api.OK {
			t.Fatalf("Stop(%v, %d) = %d", l, x.Kind, e)
		}
		l = rest
	}
	t.Fatalf("timers go off again and again: %v", off)
	return nil, nil
}

func TestTimersGoOffInOrder(t *testing.T) {
	for _, l := range rows(0, 7, 9) {
		for _, now := range []int{-1, 0, 6, 7, 8, 9, 10, api.MaxTime} {
			var want, later []api.Timer
			for _, x := range byTime(l) {
				if x.At <= now {
					want = append(want, x)
				}
			}
			for _, x := range l {
				if x.At > now {
					later = append(later, x)
				}
			}
			off, left := goOff(t, l, now)
			if !slices.Equal(off, want) || !slices.Equal(left, later) {
				t.Fatalf("of %v at %d go off %v and stay %v, want %v and %v", l, now, off, left, want, later)
			}
		}
	}
}

// The same at times that follow one another.
func TestTimersGoOffAsTimePasses(t *testing.T) {
	for _, l := range rows(0, 1, 2, 3) {
		var all []api.Timer
		left := l
		for now := range 4 {
			var off []api.Timer
			off, left = goOff(t, left, now)
			all = append(all, off...)
		}
		if !slices.Equal(all, byTime(l)) || len(left) != 0 {
			t.Fatalf("of %v go off %v and stay %v", l, all, left)
		}
	}
}

// Rules that hold everywhere

// R3: what is handed in is not changed, nor what stands behind its end.
func TestInputsStay(t *testing.T) {
	behind := api.Timer{Kind: 77, At: -77}
	for _, l := range rows(0, 7) {
		room := append(slices.Clone(l), behind, behind)
		kept := slices.Clone(room)
		given := room[:len(l)]
		for _, kind := range edgeKinds() {
			timer.Set(given, kind, 3)
			timer.Set(given, kind, -1)
			timer.Stop(given, kind)
			timer.When(given, kind)
		}
		timer.Check(given)
		timer.Next(given)
		timer.Due(given, 7)
		if !slices.Equal(room, kept) {
			t.Fatalf("%v became %v", kept, room)
		}
	}
}

// R3: what is answered is new memory.
func TestAnswersAreNew(t *testing.T) {
	for _, l := range rows(0, 7) {
		room := append(make([]api.Timer, 0, 16), l...)
		for kind := api.TimerKind(1); kind <= 5; kind++ {
			set, _ := timer.Set(room, kind, 3)
			stopped, _ := timer.Stop(room, kind)
			for _, got := range [][]api.Timer{set, stopped} {
				clear(got)
				_ = append(got, api.Timer{Kind: 9, At: 9})
			}
			if !slices.Equal(room, l) || !slices.Equal(room[:16][len(l):], make([]api.Timer, 16-len(l))) {
				t.Fatalf("an answer of kind %d shares %v", kind, l)
			}
			if again, _ := timer.Set(room, kind, 3); !slices.Equal(again, wantSet(l, kind, 3)) {
				t.Fatalf("Set(%v, %d) after its answer was written over = %v", l, kind, again)
			}
			set, _ = timer.Set(room, kind, 3)
			stopped, _ = timer.Stop(room, kind)
			clear(room)
			if !slices.Equal(set, wantSet(l, kind, 3)) || !slices.Equal(stopped, wantOthers(l, kind)) {
				t.Fatalf("%v and %v share what they were made of, %v", set, stopped, l)
			}
			copy(room, l)
		}
	}
}
